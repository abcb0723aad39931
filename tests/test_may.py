"""Point 4, of may."""

import unittest

from tests.helper import (
    DEALS, FAR, LEFT, PASS, RIGHT, begin, every_tile, know, last, may, play, show, told,
)

BEGIN = begin(2, 2, 3, 0)
LAID = play(0, 1, LEFT)
REST = 2


class May(unittest.TestCase):

    def test_at_the_beginning_each_may_have_it(self):
        self.assertEqual(told(BEGIN, DEALS)[1], [1260])
        for one, other in every_tile(3):
            # Two and two of ten tiles, and six in the rest.
            self.assertEqual(last(BEGIN, may(one, other)), [3, 252, 252, 756])

    def test_a_tile_is_told_in_either_order(self):
        self.assertEqual(last(BEGIN, know(1, 0, 3), may(3, 0)), [1, 0, 252, 0])
        self.assertEqual(last(BEGIN, know(1, 3, 0), may(0, 3)), [1, 0, 252, 0])

    def test_players_and_the_rest_in_their_order(self):
        calls = [begin(4, 1, 2, 0), know(1, 0, 0)]
        self.assertEqual(last(*calls, may(0, 0)), [1, 0, 60, 0, 0, 0])
        self.assertEqual(last(*calls, may(2, 2)), [5, 12, 0, 12, 12, 24])

    def test_it_is_known_to_be_somewhere(self):
        self.assertEqual(last(BEGIN, know(0, 2, 3), may(2, 3)), [1, 252, 0, 0])
        self.assertEqual(last(BEGIN, know(1, 2, 3), may(2, 3)), [1, 0, 252, 0])
        self.assertEqual(last(BEGIN, know(REST, 2, 3), may(2, 3)), [1, 0, 0, 756])

    def test_another_is_known_to_be_somewhere(self):
        # Nine tiles are left: one for player 0, two for player 1.
        self.assertEqual(last(BEGIN, know(0, 2, 3), may(0, 0)), [3, 28, 56, 168])

    def test_by_passes_some_lack_it(self):
        calls = [BEGIN, LAID, PASS]
        self.assertEqual(last(*calls, DEALS), [21])
        # Player 1 has two of 2-2, 2-3 and 3-3, player 0 any other one.
        for one, other in ((0, 0), (0, 2), (3, 0), (1, 1), (2, 1), (1, 3)):
            self.assertEqual(last(*calls, may(one, other)), [2, 3, 0, 18])
        for one, other in ((2, 2), (3, 2), (3, 3)):
            self.assertEqual(last(*calls, may(one, other)), [3, 1, 14, 6])

    def test_by_passes_of_all_it_is_in_the_rest(self):
        calls = [BEGIN, LAID, PASS, PASS]
        self.assertEqual(last(*calls, may(0, 0)), [1, 0, 0, 3])
        self.assertEqual(last(*calls, may(2, 3)), [3, 1, 2, 0])

    def test_known_and_lacked(self):
        calls = [BEGIN, LAID, PASS, know(0, 0, 0)]
        self.assertEqual(last(*calls, may(0, 0)), [1, 3, 0, 0])
        self.assertEqual(last(*calls, may(1, 1)), [2, 0, 0, 3])

    def test_a_place_that_may_have_it_in_no_deal(self):
        # Player 0 has no room for more, which isn't known of the tile alone.
        calls = [BEGIN, know(0, 0, 0), know(0, 1, 1)]
        self.assertEqual(last(*calls, may(2, 2)), [3, 0, 7, 21])
        # Nor is it told by what the others need.
        calls = [BEGIN, LAID, PASS, know(REST, 2, 2)]
        self.assertEqual(last(*calls, may(3, 3)), [3, 0, 6, 0])

    def test_a_rest_without_tiles(self):
        self.assertEqual(last(begin(3, 1, 1, 0), may(0, 1)), [4, 2, 2, 2, 0])
        fourth = 472518347558400 // 4
        self.assertEqual(last(begin(4, 7, 6, 0), may(6, 6)), [5] + [fourth] * 4 + [0])

    def test_a_player_without_tiles(self):
        calls = [begin(2, 1, 2, 0), play(0, 1, LEFT)]
        self.assertEqual(last(*calls, may(2, 2)), [3, 0, 1, 4])

    def test_hands_shown_are_known_to_be_there(self):
        calls = [BEGIN, LAID, PASS, PASS, show(0, 3, 2)]
        self.assertEqual(last(*calls, may(2, 3)), [1, 1, 0, 0])
        self.assertEqual(last(*calls, may(2, 2)), [3, 0, 1, 0])

    def test_there_is_no_round(self):
        for one, other in ((0, 0), (0, 1), (-1, -1), (7, 7)):
            self.assertEqual(told(may(one, other)), [[-2]])
        for far in FAR:
            self.assertEqual(told(may(far, far)), [[-2]])
        self.assertEqual(last(begin(1, 2, 3, 0), may(0, 0)), [-2])

    def test_no_such_tile(self):
        for one, other in ((0, 4), (4, 0), (4, 4), (-1, 0), (0, -1), (-1, -1)):
            self.assertEqual(last(BEGIN, may(one, other)), [-1])
        for far in FAR:
            for one, other in ((far, 0), (0, far), (far, far)):
                self.assertEqual(last(BEGIN, may(one, other)), [-1])
                self.assertEqual(last(BEGIN, LAID, PASS, PASS, may(one, other)), [-1])

    def test_it_is_on_the_table(self):
        calls = [begin(2, 3, 3, 0), know(0, 0, 1), LAID, play(1, 3, RIGHT)]
        for one, other in ((0, 1), (1, 0), (1, 3), (3, 1)):
            self.assertEqual(last(*calls, may(one, other)), [-4])
            self.assertEqual(last(*calls, PASS, PASS, may(one, other)), [-4])
        self.assertEqual(last(begin(2, 1, 2, 0), LAID, may(0, 1)), [-4])

    def test_a_second_round_forgets_the_table(self):
        self.assertEqual(last(BEGIN, LAID, PASS, BEGIN, may(0, 1)), [3, 252, 252, 756])

    def test_asking_changes_nothing(self):
        calls = [BEGIN, LAID, DEALS, PASS, DEALS, know(0, 2, 2), DEALS, PASS]
        asked = told(*calls)
        for at in range(1, len(calls) + 1):
            given = told(*calls[:at], may(2, 2), may(0, 1), may(5, 5), *calls[at:])
            self.assertEqual(given[:at] + given[at + 3:], asked)


if __name__ == "__main__":
    unittest.main()
