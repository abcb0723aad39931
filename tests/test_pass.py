"""Point 3: pass."""

import unittest

from tests.helper import DEALS, LEFT, PASS, RIGHT, begin, know, last, play, told

BEGIN = begin(2, 2, 3, 0)
LAID = play(0, 1, LEFT)


class Pass(unittest.TestCase):

    def test_answers_passes_and_how_it_stands(self):
        calls = [begin(4, 2, 4, 3), LAID, PASS, PASS, PASS]
        self.assertEqual(
            told(*calls)[2:],
            [
                [1, 1, 0, 1, 2, 2, 2, 1],
                [2, 2, 0, 1, 2, 2, 2, 1],
                [3, 3, 0, 1, 2, 2, 2, 1],
            ],
        )

    def test_it_is_over_when_all_have_passed(self):
        self.assertEqual(
            told(BEGIN, LAID, PASS, PASS)[2:], [[1, 0, 0, 1, 1, 2], [2, -1, 0, 1, 1, 2]]
        )
        calls = [begin(3, 1, 6, 2), LAID]
        self.assertEqual(last(*calls), [0, -1, 0, 1, 1, 1, 0])
        calls = [begin(3, 2, 6, 2), LAID, PASS, PASS]
        self.assertEqual(last(*calls), [2, 2, 0, 1, 2, 2, 1])
        self.assertEqual(last(*calls, PASS), [3, -1, 0, 1, 2, 2, 1])

    def test_all_but_not_one_behind_another(self):
        calls = [BEGIN, play(0, 1, LEFT), PASS, play(1, 1, RIGHT)]
        calls[0] = begin(2, 3, 4, 0)
        self.assertEqual(last(*calls, PASS), [1, 0, 0, 1, 1, 3])
        self.assertEqual(last(*calls, PASS, PASS), [2, -1, 0, 1, 1, 3])

    def test_a_pass_is_of_both_ends(self):
        calls = [BEGIN, LAID, PASS]
        for one, other in ((0, 0), (1, 1), (0, 3), (3, 1)):
            self.assertEqual(last(*calls, know(1, one, other)), [-7])
        self.assertEqual(last(*calls, know(1, 2, 3)), [1])

    def test_a_pass_is_of_one_player(self):
        calls = [begin(3, 2, 4, 0), LAID, PASS]
        self.assertEqual(last(*calls, know(1, 1, 1)), [-7])
        self.assertEqual(last(*calls, know(2, 1, 1)), [1])
        self.assertEqual(last(*calls, know(0, 1, 1)), [1])

    def test_one_passes_who_passed_there_before(self):
        calls = [begin(2, 3, 4, 0), LAID, PASS, play(1, 1, RIGHT), PASS]
        self.assertEqual(last(*calls), [1, 0, 0, 1, 1, 3])

    def test_it_is_over(self):
        self.assertEqual(last(begin(2, 1, 2, 0), LAID, PASS), [-3])
        self.assertEqual(last(BEGIN, LAID, PASS, PASS, PASS), [-3])

    def test_nothing_lies(self):
        self.assertEqual(last(BEGIN, PASS), [-6])
        # They are known to have tiles, but there's no end where one fits.
        self.assertEqual(last(BEGIN, know(0, 0, 0), PASS), [-6])

    def test_they_are_known_to_have_one_that_fits(self):
        for one, other in ((0, 0), (2, 0), (1, 1), (3, 1)):
            self.assertEqual(last(BEGIN, LAID, know(1, one, other), PASS), [-7])
            self.assertEqual(last(BEGIN, know(1, one, other), LAID, PASS), [-7])
        self.assertEqual(last(BEGIN, LAID, know(1, 2, 3), PASS), [1, 0, 0, 1, 1, 2])

    def test_somebody_else_is_known_to_have_one_that_fits(self):
        for place in (0, 2):
            self.assertEqual(last(BEGIN, LAID, know(place, 0, 0), PASS), [1, 0, 0, 1, 1, 2])

    def test_no_deal_would_fit(self):
        # 2-2 alone would be left for player 1's two tiles.
        self.assertEqual(last(begin(2, 2, 2, 0), LAID, PASS), [-7])
        # 2-2, 2-3 and 3-3 are too few for both players' tiles.
        calls = [begin(2, 3, 3, 0), LAID, PASS]
        self.assertEqual(last(*calls), [1, 0, 0, 1, 2, 3])
        self.assertEqual(last(*calls, PASS), [-7])

    def test_no_deal_would_fit_by_what_is_known(self):
        calls = [BEGIN, LAID, know(2, 2, 2), know(2, 3, 3)]
        self.assertEqual(last(*calls, PASS), [-7])
        self.assertEqual(last(*calls[:3], PASS), [1, 0, 0, 1, 1, 2])

    def test_the_rest_lacks_nothing(self):
        calls = [BEGIN, LAID, PASS, PASS]
        self.assertEqual(last(*calls, DEALS), [3])


if __name__ == "__main__":
    unittest.main()
