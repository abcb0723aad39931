"""Point 4, of deals."""

import unittest
from math import factorial

from tests.helper import DEALS, LEFT, PASS, RIGHT, begin, know, last, play, told


class Deals(unittest.TestCase):

    def test_there_is_no_round(self):
        self.assertEqual(told(DEALS), [[-2]])

    def test_all_deals_fit_at_the_beginning(self):
        for players in (2, 3, 4):
            for tiles in range(1, 8):
                for greatest in range(1, 7):
                    rest = told(begin(players, tiles, greatest, 0))[0][0]
                    if rest >= 0:
                        every = factorial(players * tiles + rest)
                        asked = every // (factorial(tiles) ** players * factorial(rest))
                        self.assertEqual(last(begin(players, tiles, greatest, 0), DEALS), [asked])

    def test_the_most_deals(self):
        self.assertEqual(last(begin(4, 7, 6, 3), DEALS), [472518347558400])

    def test_deals_behind_plays_and_passes(self):
        self.assertEqual(
            told(
                begin(2, 2, 3, 0), DEALS, play(0, 1, LEFT), DEALS, PASS, DEALS,
                play(2, 1, RIGHT), DEALS,
            )[1::2],
            [[1260], [252], [21], [3]],
        )

    def test_when_it_is_over_by_passes(self):
        self.assertEqual(last(begin(2, 2, 3, 0), play(0, 1, LEFT), PASS, PASS, DEALS), [3])

    def test_what_is_known_leaves_fewer(self):
        self.assertEqual(
            told(
                begin(2, 2, 2, 0), DEALS, know(0, 0, 0), DEALS, know(1, 0, 1), DEALS,
                know(2, 2, 2), DEALS, know(2, 1, 1), DEALS, know(1, 0, 2), DEALS,
            )[1::2],
            [[90], [30], [12], [6], [2], [1]],
        )

    def test_what_is_known_and_played(self):
        calls = [begin(2, 2, 2, 0), know(0, 0, 1), play(0, 1, LEFT), DEALS]
        self.assertEqual(last(*calls), [30])
        self.assertEqual(last(*calls[:2], DEALS), [30])

    def test_asking_changes_nothing(self):
        calls = [begin(3, 2, 3, 0), play(0, 1, LEFT), know(1, 2, 2)]
        asked = last(*calls, DEALS)
        self.assertEqual(last(*calls, DEALS, DEALS, DEALS), asked)
        self.assertEqual(
            last(*calls, DEALS, DEALS, play(1, 1, LEFT)), last(*calls, play(1, 1, LEFT))
        )

    def test_whoever_knows_more_has_no_more_deals(self):
        calls = [
            begin(3, 7, 6, 1), know(3, 6, 6), play(5, 6, LEFT), play(5, 5, LEFT), know(0, 1, 1),
            PASS, play(6, 4, RIGHT), PASS, PASS, play(4, 4, RIGHT), PASS, know(1, 2, 3),
        ]
        before = last(calls[0], DEALS)[0]
        for upto in range(2, len(calls) + 1):
            self.assertGreaterEqual(min(told(*calls[:upto])[-1]), 0)
            now = last(*calls[:upto], DEALS)[0]
            self.assertLessEqual(now, before)
            self.assertGreater(now, 0)
            before = now


if __name__ == "__main__":
    unittest.main()
