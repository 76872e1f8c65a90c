"""The interface: how calls are read, how answers are given back, and that nothing is changed or kept."""

import random
import unittest

from searchlegs.search import answers

LINE = [
    0, 100001, 0, 20, 10,
    0, -5, 7, 20, 10,
    1, 10, 0, 100,
    1, 10, 0, 5,
    1, 0, 0, 5,
    2, -5, 7, 20, 10,
    6, 0, 0,
    6, 2, 2,
    7,
    8, 0, 2,
    9,
    4,
    9,
    10, 0,
    10, 1,
    5, 3,
    5, 100,
    11, 0, 8,
    11, 1, 1,
    11, 1, 2,
    12, 0,
    12, 1,
    13, -5, 7,
    13, 15, 16,
    13, 16, 16,
    14, -5, 16,
    14, -5, 17,
    15, 0, 1, 5,
    15, 0, 2, 5,
    16, 1,
    16, 2,
    17,
    18,
    21,
    3, 1,
    9,
    18,
    20,
    19,
    21,
    20,
    20,
    21,
]

TOLD = [
    1, -22,
    1, 0,
    1, 0,
    1, 1,
    1, -22,
    1, 0,
    2, 23, 11,
    1, -2,
    2, 19, 1,
    2, 2, 11,
    1, -6,
    2, 19, 1,
    6, 19, 1, 9, 2, 0, 0,
    3, 9, 188, 0,
    3, 2, 41, 9,
    1, 3,
    1, -75,
    5, 0, -5, 15, 15, 15,
    5, 0, 15, 17, -5, 17,
    1, -2,
    4, 1, 6, 8, 1,
    4, 1, 6, 17, 1,
    2, 0, 0,
    2, 2, 1,
    1, -22,
    1, 1,
    1, 0,
    2, 4, 4,
    1, -22,
    4, 10, 0, 5, 1,
    1, -2,
    5, 231, -5, 7, 20, 10,
    3, 16, 2, 11,
    5, 3, 2, 1, 5, 0,
    1, 1,
    1, -6,
    1, -6,
    1, -2,
    1, 5,
    5, 3, 2, 1, 5, 1,
    1, 0,
    1, -2,
    5, 0, 1, 0, 6, 0,
]


class Watched(list):
    """A list that tells when it is changed, if only for a while."""

    def changed(self, *unused):
        raise AssertionError("the list handed in was changed")

    __setitem__ = __delitem__ = __iadd__ = __imul__ = changed
    append = clear = extend = insert = pop = remove = reverse = sort = changed


class InterfaceTest(unittest.TestCase):
    def test_a_whole_line(self):
        self.assertEqual(answers(LINE), TOLD)

    def test_the_answers_are_a_list_of_whole_numbers(self):
        told = answers(LINE)
        self.assertIs(type(told), list)
        self.assertEqual({type(number) for number in told}, {int})

    def test_one_call(self):
        self.assertEqual(answers([0, 0, 0, 1, 1]), [1, 0])
        self.assertEqual(answers([0, 0, 0, 0, 1]), [1, -22])

    def test_what_is_handed_in_is_as_it_was(self):
        handed = list(LINE)
        answers(handed)
        self.assertEqual(handed, LINE)
        self.assertEqual(answers(Watched(LINE)), TOLD)

    def test_nothing_is_kept_from_one_time_to_the_next(self):
        first = answers(LINE)
        first.append(5)
        answers([0, 0, 0, 500, 500, 1, 1, 1, 1, 1, 500, 200, 100, 4, 19])
        self.assertEqual(answers(LINE), TOLD)
        # Behind a new start there's no craft of the line before, and no plan.
        self.assertEqual(answers([0, 0, 0, 20, 10, 9, 3, 0]), [1, 0, 1, -6, 1, -2])
        # And no change of it can be taken back or done again.
        self.assertEqual(answers([0, 0, 0, 20, 10, 19, 20, 21]), [1, 0, 1, -2, 1, -2, 5, 0, 0, 0, 0, 0])

    def test_a_line_of_a_thousand_calls(self):
        handed = [0, 0, 0, 500, 500] + [1, 400, 3, 100] * 4 + [7] * 995
        told = answers(handed)
        self.assertEqual(told[:10], [1, 0, 1, 0, 1, 1, 1, 2, 1, 3])
        self.assertEqual(told[10:], told[10:13] * 995)

    def test_each_call_answers_as_many_numbers_as_are_told(self):
        before = [0, 0, 0, 20, 10] + [1, 10, 0, 100] * 2 + [4, 5, 1]
        calls = [
            [6, 0, 0], [7], [8, 0, 1], [9], [10, 0], [11, 0, 0], [12, 0], [13, 0, 0], [14, 0, 0], [15, 0, 0, 1], [16, 0],
            [17], [18], [19], [20], [21],
        ]
        for call, count in zip(calls, (2, 2, 2, 6, 3, 5, 4, 2, 1, 2, 4, 5, 3, 1, 1, 5)):
            made = before + [19] if call == [20] else before
            self.assertEqual(len(split(answers(made + call))[-1]), count, call)

    def test_refusals_leave_all_as_it_was(self):
        chance = random.Random(4)
        for unused in range(60):
            calls = some_calls(chance)
            told = split(answers([number for call in calls for number in call]))
            kept = [at for at in range(len(calls)) if at == 0 or told[at][0] >= 0]
            without = split(answers([number for at in kept for number in calls[at]]))
            self.assertEqual(without, [told[at] for at in kept], calls)


def some_calls(chance):
    """A start that is taken, and calls of all sorts behind it, many of them refused."""
    calls = [[0, 0, 0, 12, 9]]
    for unused in range(150):
        number = chance.choice((0, 1, 1, 2, 3, 4, 4, 5, 5, 5, *range(6, 22), 19, 20, 20))
        given = {
            0: [chance.choice((0, 100001)), 0, chance.randint(1, 20), chance.choice((0, 0, 0, 8))],
            1: [chance.randint(0, 9), chance.choice((0, 1, 2, 201)), chance.randint(0, 30)],
            2: [0, chance.choice((0, -100001)), chance.randint(0, 20), chance.randint(1, 20)],
            3: [chance.randint(0, 9)],
            5: [chance.randint(0, 6)],
            6: [chance.randint(0, 4), chance.randint(0, 2)],
            8: [chance.randint(0, 2), chance.randint(0, 120)],
            10: [chance.randint(0, 4)],
            11: [chance.randint(0, 4), chance.randint(0, 5)],
            12: [chance.randint(0, 4)],
            13: [chance.randint(-1, 12), chance.randint(-1, 9)],
            14: [chance.randint(-1, 12), chance.randint(-1, 9)],
            15: [chance.randint(0, 4), chance.randint(0, 2), chance.randint(0, 120)],
            16: [chance.randint(0, 4)],
        }.get(number, [])
        calls.append([number] + given)
    return calls


def split(told):
    answered = []
    at = 0
    while at < len(told):
        answered.append(told[at + 1:at + 1 + told[at]])
        at += 1 + told[at]
    return answered
