"""Now: if it's over, how it stands, the rest, passes, tiles known."""

import unittest

from tests.helper import (
    DEALS, FAR, LEFT, NOW, PASS, RIGHT, begin, know, last, may, play, show, told,
)


class Now(unittest.TestCase):

    def test_ahead_of_the_first_begin(self):
        # It's over, without players; nothing lies, and there's no rest.
        self.assertEqual(told(NOW), [[1, -1, -1, -1, 0, 0, 0]])
        refused = [begin(2, 2, 1, 0), know(0, 0, 0), play(0, 0, 0), PASS, may(0, 0), show(0)]
        self.assertEqual(last(*refused, NOW), [1, -1, -1, -1, 0, 0, 0])

    def test_nothing_lies(self):
        self.assertEqual(last(begin(2, 7, 6, 1), NOW), [0, 1, -1, -1, 7, 7, 14, 0, 0])
        self.assertEqual(last(begin(4, 2, 4, 3), NOW), [0, 3, -1, -1, 2, 2, 2, 2, 7, 0, 0])

    def test_a_rest_without_tiles(self):
        self.assertEqual(last(begin(3, 2, 2, 0), NOW), [0, 0, -1, -1, 2, 2, 2, 0, 0, 0])

    def test_in_the_middle_of_a_round(self):
        given = told(
            begin(3, 3, 4, 2), know(0, 4, 4), NOW, know(2, 1, 3), NOW, play(3, 1, RIGHT), NOW,
            PASS, NOW, play(3, 0, RIGHT), NOW, PASS, NOW, PASS, NOW,
        )[2::2]
        self.assertEqual(
            given,
            [
                [0, 2, -1, -1, 3, 3, 3, 6, 0, 1],
                [0, 2, -1, -1, 3, 3, 3, 6, 0, 2],
                [0, 0, 1, 3, 3, 3, 2, 6, 0, 1],
                [0, 1, 1, 3, 3, 3, 2, 6, 1, 1],
                [0, 2, 1, 0, 3, 2, 2, 6, 0, 1],
                [0, 0, 1, 0, 3, 2, 2, 6, 1, 1],
                [0, 1, 1, 0, 3, 2, 2, 6, 2, 1],
            ],
        )

    def test_it_is_over_by_passes(self):
        calls = [begin(3, 2, 6, 1), play(0, 1, LEFT), PASS, PASS]
        self.assertEqual(last(*calls, NOW), [0, 1, 0, 1, 2, 1, 2, 22, 2, 0])
        self.assertEqual(last(*calls, PASS, NOW), [1, -1, 0, 1, 2, 1, 2, 22, 3, 0])

    def test_it_is_over_by_tiles(self):
        calls = [begin(3, 1, 2, 2), know(0, 0, 0), play(1, 2, RIGHT)]
        self.assertEqual(last(*calls, NOW), [1, -1, 1, 2, 1, 1, 0, 3, 0, 1])

    def test_over_by_tiles_behind_a_pass(self):
        calls = [begin(2, 2, 4, 0), play(0, 1, LEFT), PASS, play(1, 1, RIGHT)]
        self.assertEqual(last(*calls, NOW), [1, -1, 0, 1, 0, 2, 11, 0, 0])

    def test_hands_shown_are_known(self):
        calls = [begin(2, 2, 3, 0), play(0, 1, LEFT), PASS, PASS]
        given = told(*calls, NOW, show(1, 2, 2, 3, 3), NOW, show(0, 2, 3), NOW)[4::2]
        self.assertEqual([now[-1] for now in given], [0, 2, 3])
        self.assertEqual({tuple(now[:-1]) for now in given}, {(1, -1, 0, 1, 1, 2, 6, 2)})

    def test_it_tells_what_the_last_call_answered(self):
        calls = [
            begin(4, 2, 3, 1), play(1, 1, LEFT), PASS, play(1, 2, RIGHT), play(2, 2, LEFT),
            play(2, 3, RIGHT), PASS, PASS, play(3, 1, RIGHT),
        ]
        for upto in range(2, len(calls) + 1):
            answer = last(*calls[:upto])
            if answer[0] >= 0:
                self.assertEqual(last(*calls[:upto], NOW)[1:8], answer[1:])

    def test_a_refusal_is_not_seen(self):
        calls = [begin(2, 2, 3, 0), know(0, 2, 3), play(0, 1, LEFT), PASS]
        asked = last(*calls, NOW)
        self.assertEqual(asked, [0, 0, 0, 1, 1, 2, 6, 1, 1])
        refused = [
            begin(2, 6, 2, 0), know(1, 0, 0), know(1, 2, 3), know(0, 2, 2), play(0, 1, LEFT),
            play(2, 3, LEFT), play(1, 1, RIGHT), show(0, 2, 3), may(0, 1), DEALS, NOW,
        ]
        refused += [play(far, far, far) for far in FAR] + [know(far, 0, 0) for far in FAR]
        for call in refused:
            self.assertEqual(last(*calls, call, NOW), asked)

    def test_a_second_round(self):
        calls = [begin(2, 2, 3, 0), know(0, 2, 3), play(0, 1, LEFT), PASS, PASS, show(0, 2, 3)]
        self.assertEqual(last(*calls, begin(3, 1, 2, 1), NOW), [0, 1, -1, -1, 1, 1, 1, 3, 0, 0])

    def test_asking_changes_nothing(self):
        calls = [begin(2, 2, 3, 0), play(0, 1, LEFT), DEALS, PASS, DEALS, PASS, DEALS]
        asked = told(*calls)
        for at in range(len(calls) + 1):
            given = told(*calls[:at], NOW, NOW, *calls[at:])
            self.assertEqual(given[at], given[at + 1])
            self.assertEqual(given[:at] + given[at + 2:], asked)


if __name__ == "__main__":
    unittest.main()
