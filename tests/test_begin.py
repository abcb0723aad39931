"""Point 1: begin, and what there is ahead of the first one."""

import unittest

from tests.helper import (
    DEALS, FAR, LEFT, LINE, NOW, PASS, SCORE, begin, every_tile, know, last, may, play, show, told,
)


class Begin(unittest.TestCase):

    def test_answers_how_many_are_in_the_rest(self):
        self.assertEqual(told(begin(2, 7, 6, 0)), [[14]])
        self.assertEqual(told(begin(3, 5, 6, 2)), [[13]])
        self.assertEqual(told(begin(2, 2, 2, 1)), [[2]])
        self.assertEqual(told(begin(4, 1, 2, 3)), [[2]])

    def test_none_is_left_for_the_rest(self):
        for players, tiles, greatest in (
            (3, 1, 1), (2, 3, 2), (3, 2, 2), (2, 5, 3), (3, 5, 4), (3, 7, 5), (4, 7, 6)
        ):
            self.assertEqual(told(begin(players, tiles, greatest, 0)), [[0]])

    def test_the_bounds_of_players(self):
        self.assertEqual(told(begin(1, 1, 3, 0)), [[-1]])
        self.assertEqual(told(begin(2, 1, 3, 0)), [[8]])
        self.assertEqual(told(begin(4, 1, 3, 0)), [[6]])
        self.assertEqual(told(begin(5, 1, 3, 0)), [[-1]])
        self.assertEqual(told(begin(0, 1, 3, 0)), [[-1]])

    def test_the_bounds_of_tiles(self):
        self.assertEqual(told(begin(2, 0, 6, 0)), [[-1]])
        self.assertEqual(told(begin(2, 1, 6, 0)), [[26]])
        self.assertEqual(told(begin(2, 7, 6, 0)), [[14]])
        self.assertEqual(told(begin(2, 8, 6, 0)), [[-1]])

    def test_the_bounds_of_the_greatest(self):
        self.assertEqual(told(begin(2, 1, 0, 0)), [[-1]])
        self.assertEqual(told(begin(2, 1, 1, 0)), [[1]])
        self.assertEqual(told(begin(2, 1, 6, 0)), [[26]])
        self.assertEqual(told(begin(2, 1, 7, 0)), [[-1]])

    def test_the_bounds_of_who_is_first(self):
        for players in (2, 3, 4):
            self.assertEqual(told(begin(players, 1, 3, -1)), [[-1]])
            self.assertEqual(told(begin(players, 1, 3, 0)), [[10 - players]])
            self.assertEqual(told(begin(players, 1, 3, players - 1)), [[10 - players]])
            self.assertEqual(told(begin(players, 1, 3, players)), [[-1]])

    def test_the_first_player_plays_first(self):
        for first in range(3):
            self.assertEqual(
                last(begin(3, 2, 3, first), play(1, 2, LEFT))[1], (first + 1) % 3
            )

    def test_there_are_not_so_many_tiles(self):
        self.assertEqual(told(begin(4, 1, 1, 0)), [[-4]])
        self.assertEqual(told(begin(2, 2, 1, 0)), [[-4]])
        self.assertEqual(told(begin(3, 6, 4, 0)), [[-4]])
        self.assertEqual(told(begin(4, 7, 5, 0)), [[-4]])

    def test_4096_and_above(self):
        self.assertEqual(told(begin(4, 7, 6, 0)), [[0]])
        self.assertEqual(told(begin(3, 7, 6, 0)), [[7]])
        self.assertEqual(told(begin(4, 3, 6, 0)), [[-5]])
        self.assertEqual(told(begin(4, 4, 6, 0)), [[-5]])
        self.assertEqual(told(begin(4, 6, 6, 0)), [[-5]])
        self.assertEqual(told(begin(4, 2, 6, 0)), [[20]])

    def test_each_beginning_within_the_bounds(self):
        for players in (2, 3, 4):
            for tiles in range(1, 8):
                for greatest in range(1, 7):
                    rest = len(every_tile(greatest)) - players * tiles
                    if rest < 0:
                        asked = [-4]
                    elif (tiles + 1) ** players * (rest + 1) > 4096:
                        asked = [-5]
                    else:
                        asked = [rest]
                    self.assertEqual(told(begin(players, tiles, greatest, 1)), [asked])

    def test_wrong_numbers(self):
        for far in FAR:
            for place in range(1, 5):
                call = begin(2, 2, 3, 0)
                call[place] = far
                self.assertEqual(told(call), [[-1]])
            self.assertEqual(told(begin(far, far, far, far)), [[-1]])

    def test_the_refusal_that_is_told_first(self):
        # There aren't so many tiles either, or the bound is passed as well.
        self.assertEqual(told(begin(5, 7, 1, 0)), [[-1]])
        self.assertEqual(told(begin(2, 8, 1, 0)), [[-1]])
        self.assertEqual(told(begin(2, 7, 1, 2)), [[-1]])
        self.assertEqual(told(begin(4, 4, 6, 4)), [[-1]])
        self.assertEqual(told(begin(4, 4, 6, -1)), [[-1]])


class AheadOfTheFirst(unittest.TestCase):

    def test_there_is_no_tile_player_or_rest(self):
        for place in (-1, 0, 1) + FAR:
            self.assertEqual(told(know(place, 0, 0)), [[-1]])
            self.assertEqual(told(know(0, place, 0)), [[-1]])
            self.assertEqual(told(know(0, 0, place)), [[-1]])

    def test_there_is_no_tile_to_play(self):
        self.assertEqual(told(play(0, 0, 0)), [[-1]])
        self.assertEqual(told(play(-1, -1, 0)), [[-1]])
        self.assertEqual(told(play(0, 1, 2)), [[-1]])

    def test_it_is_over(self):
        self.assertEqual(told(PASS), [[-3]])

    def test_there_is_no_round(self):
        self.assertEqual(told(DEALS, may(0, 0), may(-1, 7), SCORE), [[-2]] * 4)

    def test_there_is_no_player_to_show_a_hand(self):
        for player in (-1, 0, 1) + FAR:
            self.assertEqual(told(show(player), show(player, 0), show(player, 0, 0)), [[-1]] * 3)

    def test_nothing_lies_and_there_is_no_rest(self):
        self.assertEqual(told(NOW, LINE), [[1, -1, -1, -1, 0, 0, 0], [0]])

    def test_a_refused_begin_begins_nothing(self):
        for refused in (begin(1, 1, 3, 0), begin(4, 1, 1, 0), begin(4, 4, 6, 0)):
            self.assertEqual(
                told(refused, DEALS, PASS, know(0, 0, 0), play(0, 0, 0), SCORE, NOW)[1:],
                [[-2], [-3], [-1], [-1], [-2], [1, -1, -1, -1, 0, 0, 0]],
            )

    def test_calls_ahead_of_it_change_nothing(self):
        ahead = [PASS, DEALS, know(0, 0, 0), play(0, 0, 0), may(0, 0), show(0), SCORE, NOW, LINE]
        calls = [begin(2, 2, 3, 1), play(0, 1, 0), PASS, DEALS, know(2, 3, 3), DEALS, NOW, LINE]
        self.assertEqual(told(*ahead, *calls)[len(ahead):], told(*calls))


class ASecondOne(unittest.TestCase):

    FIRST = [begin(2, 2, 3, 0), know(0, 2, 3), play(0, 1, 0), PASS, DEALS]

    def test_what_was_is_gone(self):
        calls = [
            begin(3, 2, 3, 2), DEALS, know(1, 2, 3), play(1, 0, 1), PASS, DEALS, PASS, DEALS
        ]
        self.assertEqual(told(*self.FIRST, *calls)[5:], told(*calls))

    def test_the_same_round_again(self):
        self.assertEqual(told(*self.FIRST, *self.FIRST)[5:], told(*self.FIRST))

    def test_behind_one_that_is_over(self):
        over = [begin(2, 1, 1, 0), play(0, 0, 0), play(0, 0, 0)]
        self.assertEqual(last(*over), [-3])
        self.assertEqual(told(*over, *self.FIRST)[3:], told(*self.FIRST))

    def test_behind_one_that_is_over_with_hands_shown(self):
        over = [begin(2, 2, 3, 0), play(0, 1, 0), PASS, PASS, show(0, 2, 3), show(1, 2, 2, 3, 3)]
        self.assertEqual(last(*over, SCORE), [1, 0, 15, 5, 10])
        calls = self.FIRST + [SCORE, NOW, LINE, may(2, 2), PASS, SCORE, show(0, 2, 3), SCORE]
        self.assertEqual(told(*over, *calls)[len(over):], told(*calls))

    def test_a_refused_one_leaves_what_was(self):
        for refused in (begin(2, 2, 3, 2), begin(4, 7, 5, 0), begin(4, 5, 6, 0)):
            further = [DEALS, NOW, play(0, 3, 0), DEALS, LINE]
            self.assertEqual(
                told(*self.FIRST, refused, *further)[6:], told(*self.FIRST, *further)[5:]
            )


if __name__ == "__main__":
    unittest.main()
