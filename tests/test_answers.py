"""The interface: how calls are handed in and answers are given back."""

import unittest

from dominotable.table import answers
from tests.helper import (
    DEALS, FAR, LEFT, LINE, NOW, PASS, RIGHT, SCORE, begin, know, may, play, show, told,
)

ROUND = [
    begin(3, 3, 4, 1), know(0, 3, 3), play(1, 2, LEFT), play(1, 3, LEFT), play(3, 3, LEFT),
    know(3, 0, 0), PASS, DEALS, play(2, 2, RIGHT), PASS, know(0, 1, 4), DEALS, NOW, may(4, 1),
    LINE,
]
# A round that is over, with hands that are refused and hands that are not.
HANDS = [
    begin(2, 2, 3, 0), play(0, 1, LEFT), PASS, PASS, show(0), show(0, 2), show(2, 2, 3),
    show(1, 3, 2, 3, 3), show(1), SCORE, show(0, 2, 2), SCORE, NOW, LINE, may(0, 0),
]
REFUSED = [
    begin(1, 1, 1, 0), begin(4, 1, 1, 0), begin(4, 5, 6, 0), know(4, 0, 0), know(0, 5, 0),
    know(0, 1, 2), play(0, 0, 2), play(5, 5, LEFT), play(1, 2, LEFT), play(0, 0, RIGHT),
    may(0, 5), may(2, 1), show(0, 1, 4), show(3), SCORE,
] + [know(far, 0, 1) for far in FAR] + [play(far, far, far) for far in FAR]


class Fixed(list):
    """A list that fails when it is changed."""

    def fail(self, *args, **kwargs):
        raise AssertionError("changed")

    __setitem__ = __delitem__ = __iadd__ = __imul__ = fail
    append = clear = extend = insert = pop = remove = reverse = sort = fail


class Answers(unittest.TestCase):

    def test_each_answer_behind_its_length(self):
        calls = [1, 2, 2, 3, 0, 2, 2, 3, 3, 2, 0, 3, 3, 3, 1, 0, 0, 4, 5, 4, 4]
        self.assertEqual(
            answers(calls),
            [1, 6, 1, 1, 1, -4, 6, 1, 1, 0, 1, 1, 2, 6, 1, 0, 0, 1, 1, 2, 1, 6]
            + [1, -7, 1, -7],
        )

    def test_one_call_alone(self):
        self.assertEqual(answers([4]), [1, -3])
        self.assertEqual(answers([5]), [1, -2])
        self.assertEqual(answers([1, 4, 7, 6, 0]), [1, 0])
        self.assertEqual(answers([6, 0, 0]), [1, -2])
        self.assertEqual(answers([7, 0, 0]), [1, -1])
        self.assertEqual(answers([7, 0, 4, 1, 2, 3, 4]), [1, -1])
        self.assertEqual(answers([8]), [1, -2])
        self.assertEqual(answers([9]), [7, 1, -1, -1, -1, 0, 0, 0])
        self.assertEqual(answers([10]), [1, 0])

    def test_a_hand_is_a_row_behind_its_length(self):
        calls = [1, 2, 2, 3, 0, 3, 0, 1, 0, 4, 4]
        shown = [7, 1, 4, 2, 2, 3, 3, 7, 0, 0, 7, 0, 1, 9, 7, 0, 2, 3, 2, 8, 6, 2, 3, 10]
        self.assertEqual(
            answers(calls + shown)[len(answers(calls)):],
            [2, 10, 1, 1, -4, 1, -1, 2, 5, 2, 5, 1, 0, 15, 5, 10, 4, 1, 1, 0, 0, 3, 1, 0, 1],
        )

    def test_a_hand_of_twenty_numbers(self):
        for number in (0, 1, 7, 10, -2147483648, 2147483647):
            row = [7, 0, 20] + [number] * 20
            self.assertEqual(answers(row + [9] + row + [10])[:2], [1, -1])
            self.assertEqual(answers(row + [10] + row + [10]), [1, -1, 1, 0, 1, -1, 1, 0])

    def test_sixty_hands_of_twenty_numbers(self):
        self.assertEqual(answers(([7, 0, 20] + [2147483647] * 20) * 60), [1, -1] * 60)

    def test_sixty_calls(self):
        calls = begin(3, 7, 6, 0) + know(0, 6, 6) + play(0, 0, LEFT) + [5] * 57
        given = answers(calls)
        self.assertEqual(given[:2], [1, 7])
        self.assertEqual(len(given), 2 + 2 + 8 + 57 * 2)
        self.assertEqual(len(set(given[12:])), 2)

    def test_what_is_handed_in_stays_as_it_was(self):
        calls = [number for call in ROUND + REFUSED + HANDS for number in call]
        before = list(calls)
        answers(calls)
        self.assertEqual(calls, before)

    def test_what_is_handed_in_is_not_changed_for_a_while(self):
        calls = [number for call in ROUND + REFUSED + HANDS for number in call]
        self.assertEqual(answers(Fixed(calls)), answers(calls))

    def test_nothing_is_kept_from_one_time_to_the_next(self):
        calls = [number for call in ROUND + HANDS for number in call]
        first = answers(calls)
        self.assertEqual(answers([5, 8, 10]), [1, -2, 1, -2, 1, 0])
        self.assertEqual(answers(calls), first)

    def test_a_list_of_whole_numbers_is_given_back(self):
        given = answers([number for call in ROUND + REFUSED + HANDS for number in call])
        self.assertIs(list, given.__class__)
        self.assertEqual({int}, {number.__class__ for number in given})

    def test_a_refusal_is_alone_and_changes_nothing(self):
        asked = told(*ROUND)
        self.assertGreaterEqual(min(answer[0] for answer in asked), 0)
        for refused in REFUSED:
            for at in range(3, len(ROUND) + 1):
                given = told(*ROUND[:at], refused, *ROUND[at:])
                refusal = given.pop(at)
                self.assertEqual(len(refusal), 1)
                self.assertLess(refusal[0], 0)
                self.assertEqual(given, asked)

    def test_a_refused_pass_changes_nothing(self):
        calls = [begin(2, 2, 3, 0), know(0, 1, 1), play(0, 1, LEFT), know(1, 0, 0), DEALS]
        further = [play(0, 0, LEFT), DEALS, PASS, DEALS]
        asked = told(*calls, *further)
        self.assertEqual(told(*calls, PASS)[-1], [-7])
        given = told(*calls, PASS, PASS, *further)
        self.assertEqual(given[:5] + given[7:], asked)


if __name__ == "__main__":
    unittest.main()
