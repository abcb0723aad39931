"""Point 4, of score."""

import unittest

from tests.helper import (
    DEALS, LEFT, NOW, PASS, RIGHT, SCORE, begin, last, may, play, show, told,
)

# Over by passes; nobody has a 0. One tile for player 0, two for the others.
TWO = [begin(2, 2, 3, 0), play(0, 0, LEFT), PASS, PASS]
THREE = [begin(3, 2, 3, 0), play(0, 0, LEFT), PASS, PASS, PASS]
# Over by tiles: player 1 has none.
BY_TILES = [begin(3, 1, 3, 1), play(1, 3, LEFT)]


class Score(unittest.TestCase):

    def test_won_by_who_has_no_tile(self):
        calls = BY_TILES + [show(0, 0, 1), show(1), show(2, 3, 3)]
        self.assertEqual(last(*calls, SCORE), [1, 1, 7, 1, 0, 6])

    def test_won_by_who_has_no_tile_where_another_hand_counts_nothing(self):
        for shown in ([show(0, 0, 0), show(1), show(2, 2, 2)], [show(1), show(2, 2, 2), show(0, 0, 0)]):
            self.assertEqual(last(*BY_TILES, *shown, SCORE), [1, 1, 4, 0, 0, 4])
        calls = [begin(2, 1, 1, 0), play(1, 1, LEFT), show(0), show(1, 0, 0)]
        self.assertEqual(last(*calls, SCORE), [1, 0, 0, 0, 0])
        calls = [begin(2, 1, 1, 1), play(1, 1, LEFT), show(1), show(0, 0, 0)]
        self.assertEqual(last(*calls, SCORE), [1, 1, 0, 0, 0])

    def test_won_by_the_least_hand_alone(self):
        self.assertEqual(
            last(*TWO, show(0, 2, 3), show(1, 2, 2, 3, 3), SCORE), [1, 0, 15, 5, 10]
        )
        self.assertEqual(
            last(*TWO, show(0, 3, 3), show(1, 1, 1, 1, 2), SCORE), [1, 1, 11, 6, 5]
        )

    def test_the_numbers_count_and_not_how_many_tiles(self):
        self.assertEqual(last(*TWO, show(0, 3, 3), show(1, 1, 2, 1, 1), SCORE)[:2], [1, 1])
        self.assertEqual(last(*TWO, show(0, 3, 2), show(1, 1, 2, 1, 1), SCORE)[:2], [0, -1])
        self.assertEqual(last(*TWO, show(0, 3, 1), show(1, 1, 2, 1, 1), SCORE)[:2], [1, 0])

    def test_others_have_as_many_but_not_the_least(self):
        calls = THREE + [show(0, 1, 1), show(1, 1, 2, 2, 3), show(2, 1, 3, 2, 2)]
        self.assertEqual(last(*calls, SCORE), [1, 0, 18, 2, 8, 8])

    def test_the_last_player_has_the_least(self):
        calls = THREE + [show(0, 3, 3), show(1, 1, 3, 2, 2), show(2, 1, 1, 1, 2)]
        self.assertEqual(last(*calls, SCORE), [1, 2, 19, 6, 8, 5])

    def test_several_have_the_least_and_nobody_has_won(self):
        calls = TWO + [show(0, 3, 3), show(1, 1, 1, 2, 2)]
        self.assertEqual(last(*calls, SCORE), [0, -1, 12, 6, 6])
        calls = THREE + [show(0, 3, 3), show(1, 1, 1, 1, 3), show(2, 1, 2, 2, 2)]
        self.assertEqual(last(*calls, SCORE), [0, -1, 19, 6, 6, 7])
        calls = THREE + [show(0, 3, 3), show(1, 1, 2, 2, 2), show(2, 1, 1, 1, 3)]
        self.assertEqual(last(*calls, SCORE), [0, -1, 19, 6, 7, 6])
        calls = THREE + [show(0, 3, 3), show(1, 1, 3, 1, 1), show(2, 1, 2, 2, 3)]
        self.assertEqual(last(*calls, SCORE), [0, -1, 20, 6, 6, 8])

    def test_all_have_as_many(self):
        calls = [begin(2, 2, 4, 0), play(0, 1, LEFT), play(1, 1, RIGHT), PASS, PASS]
        self.assertEqual(last(*calls, show(0, 3, 3), show(1, 2, 4), SCORE), [0, -1, 12, 6, 6])

    def test_four_players(self):
        calls = [begin(4, 1, 2, 3), play(2, 2, LEFT), show(2, 0, 2), show(0, 1, 2), show(1, 1, 1)]
        self.assertEqual(last(*calls, SCORE), [-3])
        self.assertEqual(last(*calls, show(3), SCORE), [1, 3, 7, 3, 2, 2, 0])

    def test_in_whatever_order_they_show(self):
        calls = TWO + [show(1, 2, 2, 3, 3), show(0, 2, 3)]
        self.assertEqual(last(*calls, SCORE), [1, 0, 15, 5, 10])

    def test_hands_shown_one_behind_another_till_score_answers(self):
        given = told(
            *THREE, SCORE, show(2, 1, 1, 1, 2), SCORE, show(0, 3, 3), SCORE,
            show(1, 1, 3, 2, 2), SCORE,
        )
        self.assertEqual(
            given[5:],
            [[-3], [5, 1], [-3], [6, 2], [-3], [8, 3], [1, 2, 19, 6, 8, 5]],
        )

    def test_who_has_no_tile_must_show_too(self):
        calls = BY_TILES + [show(0, 0, 1), show(2, 3, 3)]
        self.assertEqual(told(*calls, SCORE, show(1), SCORE)[4:], [[-3], [0, 3], [1, 1, 7, 1, 0, 6]])

    def test_that_others_are_known_is_not_enough(self):
        # One deal alone fits once the first hand is shown.
        calls = [begin(2, 2, 3, 0), play(0, 1, LEFT), PASS, PASS, show(0, 2, 3), DEALS]
        self.assertEqual(told(*calls, SCORE)[-2:], [[1], [-3]])

    def test_there_is_no_round(self):
        self.assertEqual(told(SCORE), [[-2]])
        self.assertEqual(told(begin(2, 2, 1, 0), SCORE)[1], [-2])
        self.assertEqual(told(show(0), SCORE)[1], [-2])

    def test_it_is_not_over(self):
        for upto in (1, 2, 3):
            self.assertEqual(last(*TWO[:upto], SCORE), [-3])
            self.assertEqual(last(*THREE[:upto + 1], SCORE), [-3])

    def test_a_refused_show_is_none(self):
        calls = TWO + [show(0, 2, 3), show(0, 2, 2), show(1, 2, 2), show(1, 2, 2, 2, 3)]
        self.assertEqual(last(*calls, SCORE), [-3])

    def test_asking_changes_nothing(self):
        calls = TWO + [show(0, 2, 3), show(1, 2, 2, 3, 3), DEALS, NOW, may(1, 2)]
        asked = told(*calls)
        for at in range(len(calls) + 1):
            given = told(*calls[:at], SCORE, SCORE, *calls[at:])
            self.assertEqual(given[at], given[at + 1])
            self.assertEqual(given[:at] + given[at + 2:], asked)

    def test_a_second_round_behind_hands_shown(self):
        first = TWO + [show(0, 3, 3), show(1, 1, 1, 2, 2), SCORE]
        for second in (TWO, THREE, BY_TILES):
            further = second + [SCORE, NOW, DEALS]
            self.assertEqual(told(*first, *further)[len(first):], told(*further))
            self.assertEqual(told(*further)[len(second)], [-3])
        further = TWO + [show(0, 3, 3), SCORE, show(1, 1, 1, 1, 2), SCORE]
        self.assertEqual(
            told(*first, *further)[-4:], [[6, 1], [-3], [5, 2], [1, 1, 11, 6, 5]]
        )

    def test_a_refused_begin_leaves_the_score(self):
        calls = TWO + [show(0, 3, 3), show(1, 1, 1, 2, 2), begin(2, 2, 1, 0)]
        self.assertEqual(last(*calls, SCORE), [0, -1, 12, 6, 6])


if __name__ == "__main__":
    unittest.main()
