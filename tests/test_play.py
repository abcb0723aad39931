"""Point 3: play."""

import unittest

from tests.helper import DEALS, FAR, LEFT, PASS, RIGHT, begin, know, last, play, told

BEGIN = begin(2, 3, 3, 0)


class Play(unittest.TestCase):

    def test_a_round_with_plays_at_either_end(self):
        self.assertEqual(
            told(
                begin(3, 3, 4, 1),
                play(1, 2, RIGHT),
                play(2, 4, RIGHT),
                play(1, 3, LEFT),
                play(3, 0, LEFT),
                play(4, 4, RIGHT),
                play(1, 4, RIGHT),
                play(1, 1, RIGHT),
            ),
            [
                [6],
                [2, 2, 1, 2, 3, 2, 3],
                [2, 0, 1, 4, 3, 2, 2],
                [2, 1, 3, 4, 2, 2, 2],
                [1, 2, 0, 4, 2, 1, 2],
                [1, 0, 0, 4, 2, 1, 1],
                [1, 1, 0, 1, 1, 1, 1],
                [0, -1, 0, 1, 1, 0, 1],
            ],
        )

    def test_the_first_tile_lies_with_the_lesser_number_to_the_left(self):
        for side in (LEFT, RIGHT):
            self.assertEqual(last(BEGIN, play(1, 3, side)), [2, 1, 1, 3, 2, 3])
            self.assertEqual(last(BEGIN, play(3, 1, side)), [2, 1, 1, 3, 2, 3])
            self.assertEqual(last(BEGIN, play(2, 2, side)), [2, 1, 2, 2, 2, 3])

    def test_a_tile_is_told_in_either_order(self):
        for one, other in ((1, 2), (2, 1)):
            self.assertEqual(
                last(BEGIN, play(1, 3, LEFT), play(one, other, LEFT)), [2, 0, 2, 3, 2, 2]
            )
        for one, other in ((2, 3), (3, 2)):
            self.assertEqual(
                last(BEGIN, play(1, 3, LEFT), play(one, other, RIGHT)), [2, 0, 1, 2, 2, 2]
            )

    def test_a_double_leaves_the_end(self):
        calls = [BEGIN, play(1, 3, LEFT)]
        self.assertEqual(last(*calls, play(1, 1, LEFT)), [2, 0, 1, 3, 2, 2])
        self.assertEqual(last(*calls, play(3, 3, RIGHT)), [2, 0, 1, 3, 2, 2])

    def test_a_tile_that_fits_at_both_ends(self):
        calls = [BEGIN, play(1, 2, LEFT), play(2, 3, RIGHT)]
        self.assertEqual(last(*calls, play(1, 3, LEFT)), [1, 1, 3, 3, 1, 2])
        self.assertEqual(last(*calls, play(1, 3, RIGHT)), [1, 1, 1, 1, 1, 2])

    def test_turns_go_round(self):
        calls = [begin(4, 3, 5, 2), play(0, 0, LEFT), play(0, 1, LEFT), play(0, 2, RIGHT)]
        calls += [play(1, 3, LEFT), play(2, 4, RIGHT)]
        self.assertEqual([answer[1] for answer in told(*calls)[1:]], [3, 0, 1, 2, 3])

    def test_it_is_over_when_somebody_has_none_left(self):
        self.assertEqual(last(begin(3, 1, 2, 2), play(1, 1, LEFT)), [0, -1, 1, 1, 1, 1, 0])

    def test_a_play_ends_the_row_of_passes(self):
        calls = [begin(3, 2, 4, 0), play(0, 1, LEFT), PASS, play(1, 1, RIGHT), PASS]
        self.assertEqual(last(*calls), [1, 1, 0, 1, 1, 2, 1])
        self.assertEqual(last(*calls, PASS), [2, 2, 0, 1, 1, 2, 1])

    def test_no_such_tile(self):
        for one, other in ((0, 4), (4, 0), (4, 4), (-1, 0), (0, -1), (-1, -1)):
            self.assertEqual(last(BEGIN, play(one, other, LEFT)), [-1])
        for far in FAR:
            for one, other in ((far, 0), (0, far), (far, far)):
                self.assertEqual(last(BEGIN, play(one, other, LEFT)), [-1])
                self.assertEqual(last(BEGIN, play(0, 1, LEFT), play(one, other, LEFT)), [-1])

    def test_not_0_or_1(self):
        for side in (-1, 2) + FAR:
            self.assertEqual(last(BEGIN, play(0, 1, side)), [-1])
            self.assertEqual(last(BEGIN, play(0, 1, LEFT), play(1, 2, side)), [-1])

    def test_it_is_over(self):
        by_tiles = [begin(2, 1, 2, 0), play(0, 1, LEFT)]
        self.assertEqual(last(*by_tiles, play(1, 1, RIGHT)), [-3])
        by_passes = [begin(2, 2, 3, 0), play(0, 1, LEFT), PASS, PASS]
        self.assertEqual(last(*by_passes, play(2, 2, RIGHT)), [-3])

    def test_it_is_on_the_table(self):
        calls = [BEGIN, play(1, 3, LEFT), play(3, 3, RIGHT)]
        for one, other in ((1, 3), (3, 1), (3, 3)):
            for side in (LEFT, RIGHT):
                self.assertEqual(last(*calls, play(one, other, side)), [-4])

    def test_it_does_not_fit_there(self):
        calls = [BEGIN, play(1, 3, LEFT)]
        self.assertEqual(last(*calls, play(2, 3, LEFT)), [-6])
        self.assertEqual(last(*calls, play(1, 2, RIGHT)), [-6])
        self.assertEqual(last(*calls, play(0, 2, LEFT)), [-6])
        self.assertEqual(last(*calls, play(0, 2, RIGHT)), [-6])
        # A number within the line is no end.
        calls += [play(3, 2, RIGHT)]
        self.assertEqual(last(*calls, play(3, 3, RIGHT)), [-6])
        self.assertEqual(last(*calls, play(3, 3, LEFT)), [-6])

    def test_by_passes_they_cannot_have_it(self):
        # Player 1 passes at 0 and 1; 1 is an end still.
        calls = [BEGIN, play(0, 1, LEFT), PASS, play(0, 2, LEFT)]
        self.assertEqual(last(*calls, play(1, 3, RIGHT)), [-7])
        self.assertEqual(last(*calls, play(1, 2, LEFT)), [-7])
        self.assertEqual(last(*calls, play(2, 3, LEFT)), [2, 0, 3, 1, 1, 2])

    def test_it_is_known_to_be_elsewhere(self):
        for place in (1, 2):
            self.assertEqual(last(BEGIN, know(place, 0, 1), play(1, 0, LEFT)), [-7])
        self.assertEqual(last(BEGIN, know(0, 0, 1), play(1, 0, LEFT)), [2, 1, 0, 1, 2, 3])

    def test_no_deal_would_fit_in_a_known_hand(self):
        calls = [begin(2, 2, 3, 0), know(0, 0, 0), know(0, 1, 1)]
        self.assertEqual(last(*calls, play(2, 2, LEFT)), [-7])
        self.assertEqual(last(*calls, play(1, 1, LEFT)), [1, 1, 1, 1, 1, 2])

    def test_no_deal_would_fit_by_what_somebody_else_needs(self):
        # Player 1 has all three of 2-2, 2-3 and 3-3 by their pass.
        calls = [BEGIN, play(0, 1, LEFT), PASS, play(1, 2, RIGHT), play(2, 2, RIGHT)]
        self.assertEqual(last(*calls, play(2, 3, RIGHT)), [-7])
        self.assertEqual(last(*calls, play(0, 2, RIGHT)), [0, -1, 0, 0, 0, 2])

    def test_the_refusal_that_is_told_first(self):
        over = [begin(2, 1, 2, 0), know(1, 1, 1), play(0, 1, LEFT)]
        self.assertEqual(last(*over, play(0, 3, LEFT)), [-1])
        self.assertEqual(last(*over, play(0, 1, 2)), [-1])
        self.assertEqual(last(*over, play(0, 1, LEFT)), [-3])
        self.assertEqual(last(*over, play(2, 2, LEFT)), [-3])
        calls = [BEGIN, know(2, 3, 3), play(1, 2, LEFT), play(2, 0, RIGHT)]
        self.assertEqual(last(*calls, play(1, 2, 2)), [-1])
        self.assertEqual(last(*calls, play(1, 2, RIGHT)), [-4])
        self.assertEqual(last(*calls, play(3, 3, RIGHT)), [-6])

    def test_deals_are_there_when_it_is_over(self):
        calls = [begin(2, 1, 2, 0), play(0, 1, LEFT)]
        self.assertEqual(last(*calls, DEALS), [5])


if __name__ == "__main__":
    unittest.main()
