"""Point 2: know."""

import unittest

from tests.helper import DEALS, FAR, LEFT, PASS, RIGHT, begin, know, last, play, told

BEGIN = begin(2, 2, 3, 0)
REST = 2


class Know(unittest.TestCase):

    def test_answers_how_many_are_known(self):
        self.assertEqual(
            told(BEGIN, know(0, 0, 1), know(1, 2, 2), know(REST, 3, 0), know(0, 1, 1))[1:],
            [[1], [2], [3], [4]],
        )

    def test_a_tile_is_told_in_either_order(self):
        self.assertEqual(told(BEGIN, know(0, 1, 3), know(0, 3, 1))[1:], [[1], [-4]])
        self.assertEqual(told(BEGIN, know(0, 3, 1), know(0, 1, 3))[1:], [[1], [-4]])

    def test_one_that_is_played_is_known_no_more(self):
        calls = [BEGIN, know(0, 0, 1), know(1, 1, 1), play(1, 0, LEFT), know(REST, 3, 3)]
        self.assertEqual(last(*calls), [2])

    def test_one_that_was_not_known_is_played(self):
        calls = [BEGIN, know(0, 0, 1), play(1, 2, LEFT), know(REST, 3, 3)]
        self.assertEqual(last(*calls), [2])

    def test_what_follows_from_deals_is_not_known_till_it_is_told(self):
        # Player 0's two tiles are known: both others are player 1's then.
        calls = [begin(2, 3, 2, 0), know(0, 0, 0), know(0, 1, 1), know(0, 2, 2)]
        self.assertEqual(last(*calls, DEALS), [1])
        self.assertEqual(last(*calls, know(1, 0, 1)), [4])

    def test_no_such_tile(self):
        for one, other in ((0, 4), (4, 0), (4, 4), (-1, 0), (0, -1), (-1, -1), (-1, 4)):
            self.assertEqual(last(BEGIN, know(0, one, other)), [-1])
        for far in FAR:
            for one, other in ((far, 0), (0, far), (far, far)):
                self.assertEqual(last(BEGIN, know(0, one, other)), [-1])

    def test_the_greatest_is_a_number_of_tiles(self):
        self.assertEqual(last(BEGIN, know(0, 3, 3)), [1])
        self.assertEqual(last(begin(2, 2, 6, 0), know(0, 6, 0)), [1])
        self.assertEqual(last(begin(2, 2, 6, 0), know(0, 7, 0)), [-1])

    def test_no_such_player_or_rest(self):
        for place in (-1, 3, 4) + FAR:
            self.assertEqual(last(BEGIN, know(place, 0, 1)), [-1])
        self.assertEqual(last(begin(4, 1, 3, 0), know(4, 0, 1)), [1])
        self.assertEqual(last(begin(4, 1, 3, 0), know(5, 0, 1)), [-1])

    def test_it_is_over(self):
        by_tiles = [begin(2, 1, 2, 0), play(0, 1, LEFT)]
        self.assertEqual(last(*by_tiles, know(1, 1, 1)), [-3])
        by_passes = [BEGIN, play(0, 1, LEFT), PASS, PASS]
        self.assertEqual(last(*by_passes, know(1, 2, 2)), [-3])

    def test_it_is_on_the_table(self):
        calls = [BEGIN, play(0, 1, LEFT), play(1, 2, RIGHT)]
        for one, other in ((0, 1), (1, 0), (1, 2), (2, 1)):
            for place in (0, 1, REST):
                self.assertEqual(last(*calls, know(place, one, other)), [-4])

    def test_it_is_known_to_be_somewhere(self):
        for place in (0, 1, REST):
            for again in (0, 1, REST):
                self.assertEqual(last(BEGIN, know(place, 0, 1), know(again, 0, 1)), [-4])

    def test_by_passes_they_cannot_have_it(self):
        calls = [BEGIN, play(0, 1, LEFT), PASS]
        for one, other in ((0, 0), (0, 2), (3, 0), (1, 1), (1, 2), (3, 1)):
            self.assertEqual(last(*calls, know(1, one, other)), [-7])
            self.assertEqual(last(*calls, know(0, one, other)), [1])
            self.assertEqual(last(*calls, know(REST, one, other)), [1])
        self.assertEqual(last(*calls, know(1, 2, 3)), [1])

    def test_passes_speak_of_the_ends_of_their_time(self):
        calls = [BEGIN, play(0, 1, LEFT), PASS, play(1, 2, RIGHT)]
        calls[0] = begin(2, 3, 3, 0)
        # The end is 2 now; player 1 passed at 0 and 1.
        self.assertEqual(last(*calls, know(1, 2, 2)), [1])
        self.assertEqual(last(*calls, know(1, 1, 1)), [-7])

    def test_no_deal_would_fit_in_a_full_hand(self):
        calls = [BEGIN, know(0, 0, 0), know(0, 1, 1)]
        self.assertEqual(last(*calls, know(0, 2, 2)), [-7])
        self.assertEqual(last(*calls, know(1, 2, 2)), [3])

    def test_no_deal_would_fit_in_a_full_rest(self):
        calls = [begin(2, 4, 3, 0), know(2, 0, 0), know(2, 1, 1)]
        self.assertEqual(last(*calls, know(2, 2, 2)), [-7])
        self.assertEqual(last(*calls, know(0, 2, 2)), [3])

    def test_no_deal_would_fit_in_an_empty_rest(self):
        self.assertEqual(last(begin(3, 1, 1, 0), know(3, 0, 1)), [-7])
        self.assertEqual(last(begin(4, 7, 6, 0), know(4, 6, 6)), [-7])

    def test_no_deal_would_fit_by_what_somebody_else_needs(self):
        # Player 1 has two of 2-2, 2-3 and 3-3 by their pass.
        calls = [BEGIN, play(0, 1, LEFT), PASS, know(REST, 2, 2)]
        self.assertEqual(last(*calls), [1])
        self.assertEqual(last(*calls, know(0, 2, 3)), [-7])
        self.assertEqual(last(*calls, know(REST, 3, 3)), [-7])
        self.assertEqual(last(*calls, know(1, 3, 3)), [2])

    def test_the_refusal_that_is_told_first(self):
        over = [begin(2, 1, 2, 0), know(1, 1, 1), play(0, 1, LEFT)]
        self.assertEqual(last(*over, know(3, 1, 1)), [-1])
        self.assertEqual(last(*over, know(1, 1, 3)), [-1])
        self.assertEqual(last(*over, know(1, 0, 1)), [-3])
        self.assertEqual(last(*over, know(1, 1, 1)), [-3])
        self.assertEqual(last(*over, know(1, 0, 2)), [-3])
        # Known, or on the table, and by passes not theirs.
        calls = [BEGIN, play(0, 1, LEFT), PASS, know(0, 0, 2)]
        self.assertEqual(last(*calls, know(1, 0, 2)), [-4])
        self.assertEqual(last(*calls, know(1, 0, 1)), [-4])
        self.assertEqual(last(*calls, know(3, 0, 1)), [-1])


if __name__ == "__main__":
    unittest.main()
