"""Point 4, of show."""

import unittest

from tests.helper import (
    DEALS, FAR, LEFT, NOW, PASS, RIGHT, SCORE, begin, know, last, may, play, show, told,
)

BEGIN = begin(2, 2, 3, 0)
LAID = play(0, 1, LEFT)
# Player 0 has one, player 1 two of 2-2, 2-3 and 3-3; the rest has the others.
OVER = [BEGIN, LAID, PASS, PASS]
REST = 2
# Player 0 has none, player 1 one of 0-0, 0-2, 1-1, 1-2 and 2-2.
BY_TILES = [begin(2, 1, 2, 0), LAID]
# Player 0 has none, player 1 two of 2-2, 2-3 and 3-3, player 2 any one.
THREE = [begin(3, 2, 3, 0), LAID, PASS, play(1, 1, RIGHT), play(0, 0, LEFT)]


class Show(unittest.TestCase):

    def test_answers_what_it_counts_and_how_many_are_shown(self):
        self.assertEqual(
            told(*OVER, show(0, 2, 3), show(1, 2, 2, 3, 3))[4:], [[5, 1], [10, 2]]
        )
        self.assertEqual(
            told(*OVER, show(1, 2, 2, 2, 3), show(0, 3, 3))[4:], [[9, 1], [6, 2]]
        )

    def test_a_tile_is_told_in_either_order(self):
        self.assertEqual(last(*OVER, show(0, 3, 2)), [5, 1])
        for row in ((2, 2, 2, 3), (2, 2, 3, 2), (2, 3, 2, 2), (3, 2, 2, 2)):
            self.assertEqual(last(*OVER, show(1, *row)), [9, 1])

    def test_a_hand_that_counts_nothing(self):
        self.assertEqual(last(*BY_TILES, show(1, 0, 0)), [0, 1])

    def test_who_has_no_tile_shows_an_empty_list(self):
        self.assertEqual(told(*BY_TILES, show(0), show(1, 2, 2))[2:], [[0, 1], [4, 2]])
        self.assertEqual(told(*BY_TILES, show(1, 2, 2), show(0))[2:], [[4, 1], [0, 2]])

    def test_a_hand_of_seven(self):
        calls = [begin(2, 7, 6, 0), play(6, 6, LEFT), PASS, PASS]
        seven = (0, 0, 0, 1, 0, 2, 0, 3, 0, 4, 0, 5, 1, 1)
        six = (1, 2, 1, 3, 1, 4, 1, 5, 2, 2, 2, 3)
        self.assertEqual(told(*calls, show(1, *seven), show(0, *six))[4:], [[17, 1], [27, 2]])
        self.assertEqual(last(*calls, show(0, *seven)), [-4])
        self.assertEqual(last(*calls, show(1, *seven[:12], 5, 6)), [-7])

    def test_they_are_known_to_be_there(self):
        asked = told(*OVER, DEALS, show(0, 2, 3), DEALS, may(2, 3), NOW)[4:]
        self.assertEqual(
            asked, [[3], [5, 1], [1], [1, 1, 0, 0], [1, -1, 0, 1, 1, 2, 6, 2, 1]]
        )
        asked = told(*OVER, show(1, 2, 2, 3, 3), DEALS, may(2, 2), may(2, 3), NOW)[5:]
        self.assertEqual(
            asked, [[1], [1, 0, 1, 0], [3, 1, 0, 0], [1, -1, 0, 1, 1, 2, 6, 2, 2]]
        )

    def test_an_empty_hand_makes_nothing_known(self):
        # 0-2 and 2-2 are left for players 0 and 1, and none for the rest.
        calls = [begin(3, 2, 2, 2), play(0, 0, LEFT), play(0, 1, RIGHT), play(1, 1, RIGHT)]
        calls += [play(1, 2, RIGHT)]
        self.assertEqual(told(*calls, DEALS, show(2), DEALS)[5:], [[2], [0, 1], [2]])
        self.assertEqual(last(*calls, show(2), NOW), [1, -1, 0, 2, 1, 1, 0, 0, 0, 0])
        self.assertEqual(told(*calls, show(1, 2, 2), DEALS)[5:], [[4, 1], [1]])

    def test_tiles_known_ahead_are_known_once(self):
        calls = [BEGIN, know(1, 2, 2), know(REST, 0, 0), LAID, PASS, PASS]
        self.assertEqual(last(*calls, NOW)[-1], 2)
        self.assertEqual(last(*calls, show(1, 2, 2, 3, 3), NOW)[-1], 3)
        self.assertEqual(last(*calls, show(1, 2, 2, 3, 3), show(0, 2, 3), NOW)[-1], 4)

    def test_no_such_player(self):
        for player in (-1, 2, 3) + FAR:
            self.assertEqual(last(*OVER, show(player, 2, 3)), [-1])
            self.assertEqual(last(*OVER, show(player)), [-1])
        self.assertEqual(last(*THREE, show(2, 3, 3)), [6, 1])
        self.assertEqual(last(*THREE, show(3, 3, 3)), [-1])

    def test_the_rest_shows_nothing(self):
        self.assertEqual(last(*OVER, show(REST, 0, 0, 0, 2, 0, 3, 1, 1, 1, 2, 1, 3)), [-1])
        self.assertEqual(last(begin(3, 1, 1, 0), play(0, 0, LEFT), show(3)), [-1])

    def test_it_is_not_over(self):
        for calls in ([BEGIN], [BEGIN, LAID], [BEGIN, LAID, PASS]):
            for row in ((2, 3), (2, 2, 3, 3), ()):
                self.assertEqual(last(*calls, show(0, *row)), [-3])
                self.assertEqual(last(*calls, show(1, *row)), [-3])

    def test_not_two_numbers_for_each_tile(self):
        for row in ((2,), (2, 3, 3), (2, 3, 2, 2, 3), (2,) * 19):
            for player in (0, 1):
                self.assertEqual(last(*OVER, show(player, *row)), [-1])
        self.assertEqual(last(*BY_TILES, show(0, 0)), [-1])

    def test_no_such_tile(self):
        for row in ((4, 0), (0, 4), (-1, 0), (0, -1), (-1, -1), (7, 7)):
            self.assertEqual(last(*OVER, show(0, *row)), [-1])
            self.assertEqual(last(*OVER, show(1, 2, 2, *row)), [-1])
            self.assertEqual(last(*OVER, show(1, *row, 2, 2)), [-1])
        for far in FAR:
            for row in ((far, 0), (0, far), (far, far), (far,) * 20, (2, 3) * 9 + (0, far)):
                self.assertEqual(last(*OVER, show(0, *row)), [-1])

    def test_that_hand_is_shown(self):
        calls = OVER + [show(0, 2, 3)]
        self.assertEqual(last(*calls, show(0, 2, 3)), [-5])
        self.assertEqual(last(*calls, show(0, 3, 3)), [-5])
        self.assertEqual(last(*calls, show(0)), [-5])
        self.assertEqual(last(*calls, show(1, 2, 2, 3, 3)), [10, 2])
        self.assertEqual(last(*BY_TILES, show(0), show(0)), [-5])

    def test_not_as_many_as_they_have(self):
        self.assertEqual(last(*OVER, show(0)), [-4])
        self.assertEqual(last(*OVER, show(0, 2, 2, 3, 3)), [-4])
        self.assertEqual(last(*OVER, show(1)), [-4])
        self.assertEqual(last(*OVER, show(1, 2, 2)), [-4])
        self.assertEqual(last(*OVER, show(1, 2, 2, 3, 3, 2, 3)), [-4])
        self.assertEqual(last(*OVER, show(1, *(2, 3) * 10)), [-4])
        self.assertEqual(last(*BY_TILES, show(0, 2, 2)), [-4])
        self.assertEqual(last(*BY_TILES, show(1)), [-4])

    def test_one_twice(self):
        for row in ((2, 3, 2, 3), (2, 3, 3, 2), (2, 2, 2, 2)):
            self.assertEqual(last(*OVER, show(1, *row)), [-4])
            self.assertEqual(last(*OVER, show(1, *row, 3, 3)), [-4])

    def test_one_on_the_table(self):
        for row in ((0, 1), (1, 0)):
            self.assertEqual(last(*OVER, show(0, *row)), [-4])
            self.assertEqual(last(*OVER, show(1, *row, 2, 2)), [-4])
            self.assertEqual(last(*OVER, show(1, 2, 2, *row)), [-4])
        self.assertEqual(last(*BY_TILES, show(1, 0, 1)), [-4])

    def test_by_passes_they_cannot_have_one(self):
        for row in ((0, 0), (1, 1), (0, 2), (3, 0), (1, 2), (3, 1)):
            self.assertEqual(last(*OVER, show(0, *row)), [-7])
            self.assertEqual(last(*OVER, show(1, *row, 2, 2)), [-7])
            self.assertEqual(last(*OVER, show(1, 2, 2, *row)), [-7])

    def test_it_is_known_to_be_elsewhere(self):
        calls = [BEGIN, know(1, 2, 2), LAID, PASS, PASS]
        self.assertEqual(last(*calls, show(0, 2, 2)), [-7])
        self.assertEqual(last(*calls, show(0, 2, 3)), [5, 1])
        calls = [begin(2, 1, 2, 0), know(REST, 2, 2), LAID]
        self.assertEqual(last(*calls, show(1, 2, 2)), [-7])
        self.assertEqual(last(*calls, show(1, 1, 2)), [3, 1])

    def test_it_was_shown_elsewhere(self):
        self.assertEqual(last(*OVER, show(0, 3, 3), show(1, 3, 3, 2, 2)), [-7])
        self.assertEqual(last(*OVER, show(1, 3, 3, 2, 2), show(0, 2, 2)), [-7])

    def test_one_that_they_are_known_to_have_is_not_among_them(self):
        calls = [BEGIN, know(0, 2, 2), LAID, PASS, PASS]
        self.assertEqual(last(*calls, show(0, 3, 3)), [-7])
        self.assertEqual(last(*calls, show(0, 2, 2)), [4, 1])

    def test_no_deal_would_fit_by_what_somebody_else_needs(self):
        self.assertEqual(last(*THREE, show(2, 2, 2)), [4, 1])
        calls = [THREE[0], know(3, 3, 3)] + THREE[1:]
        # Player 1 has 2-2 and 2-3 then.
        self.assertEqual(last(*calls, may(2, 2)), [4, 0, 4, 0, 0])
        self.assertEqual(last(*calls, show(2, 2, 2)), [-7])
        self.assertEqual(last(*calls, show(2, 1, 3)), [4, 1])
        self.assertEqual(last(*THREE, show(2, 2, 2), show(1, 2, 3, 3, 3)), [11, 2])

    def test_ahead_of_the_first_begin(self):
        for player in (-1, 0, 1) + FAR:
            for row in ((), (0,), (0, 0), (-1, 7)):
                self.assertEqual(told(show(player, *row)), [[-1]])
        self.assertEqual(last(begin(2, 2, 1, 0), show(0)), [-1])

    def test_the_refusal_that_is_told_first(self):
        # No such player, and it isn't over, or such a list.
        self.assertEqual(last(BEGIN, show(2, 2, 3)), [-1])
        self.assertEqual(last(*OVER, show(2, 0)), [-1])
        # It isn't over, and such a list.
        for row in ((0,), (4, 4), (0, 1), (2, 2) * 10):
            self.assertEqual(last(BEGIN, LAID, show(0, *row)), [-3])
        # That hand is shown, and such a list.
        calls = OVER + [show(1, 2, 2, 3, 3)]
        for row in ((0,), (2, 2, 3), (4, 4), (2, 2, 0, -1)):
            self.assertEqual(last(*calls, show(1, *row)), [-1])
        for row in ((), (2, 2), (2, 2, 2, 2), (0, 1, 2, 2), (0, 0, 1, 1)):
            self.assertEqual(last(*calls, show(1, *row)), [-5])
        # Not as many, or one twice, or on the table, and no such tile.
        for row in ((4, 4, 2, 2, 3, 3), (4, 4, 4, 4), (0, 1, 4, 4)):
            self.assertEqual(last(*OVER, show(1, *row)), [-1])
        # And by passes, or by what's known, they can't have them.
        for row in ((0, 0), (0, 0, 0, 0), (0, 0, 0, 1), (0, 0, 1, 1, 2, 2)):
            self.assertEqual(last(*OVER, show(1, *row)), [-4])
        self.assertEqual(last(*OVER, show(0, 3, 3), show(1, 3, 3)), [-4])

    def test_a_refused_one_changes_nothing(self):
        further = [DEALS, NOW, may(2, 2), show(1, 2, 2, 3, 3), DEALS, show(0, 2, 3), SCORE, NOW]
        asked = told(*OVER, *further)
        refused = [
            show(2, 2, 3), show(0, 2), show(0, 4, 4), show(0), show(0, 0, 1), show(0, 0, 0),
            show(1, 2, 2, 2, 2), show(1, 2, 2, 0, 0), show(1, 3, 3, 0, 1), show(-1),
        ]
        for call in refused:
            given = told(*OVER, call, call, *further)
            self.assertLess(given[4][0], 0)
            self.assertEqual(given[:4] + given[6:], asked)
        early = [BEGIN, LAID, show(0, 2, 2), show(1), PASS, PASS]
        self.assertEqual(told(*early, *further)[6:], asked[4:])

    def test_the_round_stays_over(self):
        calls = OVER + [show(0, 2, 3)]
        self.assertEqual(last(*calls, know(1, 2, 2)), [-3])
        self.assertEqual(last(*calls, play(1, 1, RIGHT)), [-3])
        self.assertEqual(last(*calls, PASS), [-3])


if __name__ == "__main__":
    unittest.main()
