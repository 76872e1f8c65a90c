"""What the tests share: the calls by name, and a run that gives each call's answer by itself."""

import unittest

from searchlegs.search import answers

HIGHEST = 4294967295


def start(x, y, wide, high):
    return [0, x, y, wide, high]


def craft(speed, see, hours):
    return [1, speed, see, hours]


def area(x, y, wide, high):
    return [2, x, y, wide, high]


def drop(k):
    return [3, k]


def take():
    return [4]


def hours(n):
    return [5, n]


def alone(k, way):
    return [6, k, way]


def soonest():
    return [7]


def by(way, t):
    return [8, way, t]


def plan():
    return [9]


def legs(k):
    return [10, k]


def leg(k, i):
    return [11, k, i]


def where(k):
    return [12, k]


def when(x, y):
    return [13, x, y]


def seen(x, y):
    return [14, x, y]


def most(k, way, t):
    return [15, k, way, t]


def look(k):
    return [16, k]


def size():
    return [17]


def ends():
    return [18]


def back():
    return [19]


def again():
    return [20]


def state():
    return [21]


# What there is, asked for without changing it; the last of these also tells the changes.
QUESTIONS = tuple(
    [size(), plan(), ends(), soonest()]
    + [call for k in range(4) for call in (look(k), legs(k), leg(k, 0), where(k))]
    + [state()]
)


def run(*calls):
    """The answers, a list each, to the calls on one new object."""
    handed = [number for call in calls for number in call]
    told = answers(list(handed))
    split = []
    at = 0
    while at < len(told):
        end = at + 1 + told[at]
        split.append(told[at + 1:end])
        at = end
    if at != len(told) or len(split) != len(calls):
        raise AssertionError(f"{len(calls)} calls, answered {told}")
    return split


class CallsCase(unittest.TestCase):
    def last(self, *calls):
        """The answer to the last of the calls."""
        return run(*calls)[-1]

    def refused(self, code, before, call, looks):
        """The call, made behind those before, answers the code alone, and the looks answer as without it."""
        # Taken back and done again behind the questions, a change that was kept or lost would show.
        looks = [*QUESTIONS, again(), *QUESTIONS, back(), back(), *QUESTIONS, again(), again(), *QUESTIONS, *looks]
        told = run(*before, call, *looks)
        self.assertEqual(told[len(before)], [code], (before, call))
        self.assertEqual(told[len(before) + 1:], run(*before, *looks)[len(before):], (before, call))
