"""Line: the tiles that lie, from the left."""

import unittest

from tests.helper import (
    LEFT, LINE, NOW, PASS, RIGHT, begin, know, last, play, show, told,
)

ROUND = [
    begin(3, 3, 4, 1), play(1, 2, RIGHT), play(2, 4, RIGHT), play(1, 3, LEFT), play(3, 0, LEFT),
    play(4, 4, RIGHT), play(1, 4, RIGHT), play(1, 1, RIGHT),
]


class Line(unittest.TestCase):

    def test_nothing_lies(self):
        self.assertEqual(told(LINE), [[0]])
        self.assertEqual(last(ROUND[0], LINE), [0])
        self.assertEqual(last(ROUND[0], know(1, 1, 2), LINE), [0])
        self.assertEqual(told(play(0, 0, LEFT), LINE)[1], [0])

    def test_the_first_tile_with_its_lesser_number_to_the_left(self):
        for side in (LEFT, RIGHT):
            self.assertEqual(last(ROUND[0], play(1, 3, side), LINE), [1, 1, 3])
            self.assertEqual(last(ROUND[0], play(3, 1, side), LINE), [1, 1, 3])
            self.assertEqual(last(ROUND[0], play(2, 2, side), LINE), [1, 2, 2])

    def test_a_round_till_it_is_over(self):
        asked = [
            [0],
            [1, 1, 2],
            [2, 1, 2, 2, 4],
            [3, 3, 1, 1, 2, 2, 4],
            [4, 0, 3, 3, 1, 1, 2, 2, 4],
            [5, 0, 3, 3, 1, 1, 2, 2, 4, 4, 4],
            [6, 0, 3, 3, 1, 1, 2, 2, 4, 4, 4, 4, 1],
            [7, 0, 3, 3, 1, 1, 2, 2, 4, 4, 4, 4, 1, 1, 1],
        ]
        calls = [call for played in ROUND for call in (played, LINE)]
        self.assertEqual(told(*calls)[1::2], asked)

    def test_tiles_are_turned_so_that_like_numbers_lie_together(self):
        calls = [begin(2, 5, 4, 0), play(1, 3, LEFT)]
        for one, other in ((1, 4), (4, 1)):
            self.assertEqual(last(*calls, play(one, other, LEFT), LINE), [2, 4, 1, 1, 3])
        for one, other in ((1, 0), (0, 1)):
            self.assertEqual(last(*calls, play(one, other, LEFT), LINE), [2, 0, 1, 1, 3])
        for one, other in ((3, 4), (4, 3)):
            self.assertEqual(last(*calls, play(one, other, RIGHT), LINE), [2, 1, 3, 3, 4])
        for one, other in ((3, 0), (0, 3)):
            self.assertEqual(last(*calls, play(one, other, RIGHT), LINE), [2, 1, 3, 3, 0])

    def test_a_tile_that_fits_at_both_ends(self):
        calls = [begin(2, 3, 3, 0), play(1, 2, LEFT), play(2, 3, RIGHT)]
        self.assertEqual(last(*calls, play(1, 3, LEFT), LINE), [3, 3, 1, 1, 2, 2, 3])
        self.assertEqual(last(*calls, play(1, 3, RIGHT), LINE), [3, 1, 2, 2, 3, 3, 1])

    def test_passes_and_hands_lay_nothing(self):
        calls = [begin(2, 2, 3, 0), play(0, 1, LEFT), PASS, PASS, show(0, 2, 3)]
        calls += [show(1, 2, 2, 3, 3)]
        for upto in range(2, len(calls) + 1):
            self.assertEqual(last(*calls[:upto], LINE), [1, 0, 1])

    def test_a_refused_play_lays_nothing(self):
        calls = [begin(2, 3, 3, 0), play(1, 2, LEFT)]
        refused = [
            play(1, 2, LEFT), play(2, 3, LEFT), play(1, 3, RIGHT), play(1, 3, 2), play(1, 4, LEFT),
        ]
        for call in refused:
            self.assertEqual(last(*calls, call, LINE), [1, 1, 2])

    def test_a_second_round(self):
        self.assertEqual(last(*ROUND, ROUND[0], LINE), [0])
        self.assertEqual(last(*ROUND, ROUND[0], play(4, 4, LEFT), LINE), [1, 4, 4])
        self.assertEqual(last(*ROUND, begin(2, 2, 1, 0), LINE), last(*ROUND, LINE))

    def test_asking_changes_nothing(self):
        asked = told(*ROUND, NOW)
        for at in range(1, len(ROUND) + 1):
            given = told(*ROUND[:at], LINE, LINE, *ROUND[at:], NOW)
            self.assertEqual(given[at], given[at + 1])
            self.assertEqual(given[:at] + given[at + 2:], asked)


if __name__ == "__main__":
    unittest.main()
