"""Point 7: sl_back, sl_again and sl_state, and of point 1 what a change is."""

import random

from tests.helper import (
    HIGHEST, QUESTIONS, CallsCase, again, alone, area, back, by, craft, drop, ends, hours, leg, legs, look, most, plan,
    run, seen, size, soonest, start, state, take, when, where,
)
from tests.test_start import BAD

PLAIN = start(0, 0, 20, 10)
ONE = (PLAIN, craft(10, 0, 100))
TWO = ONE + (craft(10, 0, 5),)
PLANNED = TWO + (take(),)

# What comes before, the change, and what the change answers.
CHANGES = (
    ((PLAIN,), craft(30, 2, 50), [0]),
    (ONE, craft(30, 2, 50), [1]),
    ((PLAIN,), area(-7, -8, 30, 40), [0]),
    (TWO, area(-7, -8, 30, 40), [0]),
    (TWO, area(0, 0, 20, 10), [0]),
    (TWO, drop(0), [1]),
    (TWO, drop(1), [1]),
    (PLANNED, drop(0), [1]),
    (PLANNED + (hours(7),), drop(1), [1]),
    (TWO, take(), [19, 1]),
    (PLANNED, hours(1), [1]),
    (PLANNED + (hours(7),), hours(12), [19]),
)

# Every question, and a call of each sort that is refused behind PLANNED.
NO_CHANGES = QUESTIONS + (
    alone(0, 0), by(0, 5), most(0, 1, 5), when(3, 3), seen(3, 3), alone(9, 0), by(2, 0), most(0, 2, 0), when(-1, 0),
    seen(0, 11), leg(0, 99), craft(0, 0, 0), craft(1, 1, 1), area(0, 0, 0, 0), area(1, 1, 1, 1), drop(2), drop(HIGHEST),
    take(), hours(0), hours(20), start(*BAD[0]), start(*BAD[6]),
)


def standing(told):
    """The answers to QUESTIONS without how many changes can be taken back and done again."""
    return told[:-1] + [told[-1][:3]]


class BackTest(CallsCase):
    def test_each_change_is_taken_back_and_done_again(self):
        for before, change, answer in CHANGES:
            told = run(
                *before, *QUESTIONS, change, *QUESTIONS, back(), *QUESTIONS, again(), *QUESTIONS, back(), *QUESTIONS,
            )
            step = len(QUESTIONS) + 1
            told = told[len(before):]
            looks = [standing(told[at:at + step - 1]) for at in range(0, 5 * step, step)]
            made = len(before) - 1
            self.assertEqual(told[step - 1:5 * step - 1:step], [answer, [made], [0], [made]], change)
            self.assertEqual(looks[2], looks[0], change)
            self.assertEqual(looks[3], looks[1], change)
            self.assertEqual(looks[4], looks[0], change)

    def test_taken_back_by_hand(self):
        told = run(*TWO, look(1), back(), look(1), look(0), back(), look(0), back())
        self.assertEqual(told[3:], [[10, 0, 5, 1], [1], [-2], [10, 0, 100, 1], [0], [-2], [-2]])
        told = run(PLAIN, area(5, 6, 7, 8), size(), back(), size(), again(), size())
        self.assertEqual(told[2:], [[72, 5, 6, 7, 8], [0], [231, 0, 0, 20, 10], [0], [72, 5, 6, 7, 8]])
        told = run(*TWO, drop(0), look(0), look(1), back(), look(0), look(1))
        self.assertEqual(told[4:], [[10, 0, 5, 1], [-2], [2], [10, 0, 100, 1], [10, 0, 5, 1]])
        told = run(*PLANNED, plan(), back(), plan(), again(), plan())
        self.assertEqual(told[4:], [[19, 1, 9, 2, 0, 0], [2], [-6], [0], [19, 1, 9, 2, 0, 0]])
        told = run(*PLANNED, hours(4), hours(5), where(1), back(), where(1), again(), where(1))
        self.assertEqual(told[6:], [[1, 0, 10, 2], [4], [1, 1, 10, 1], [0], [1, 0, 10, 2]])

    def test_a_plan_dropped_with_a_craft_comes_back_with_its_hour(self):
        told = run(*PLANNED, hours(7), drop(0), state(), plan(), back(), state(), plan(), hours(1))
        self.assertEqual(told[6:], [[0, 1, 0, 5, 0], [-6], [4], [7, 2, 1, 4, 1], [19, 1, 9, 2, 0, 0], [8]])

    def test_other_changes_can_be_made_where_a_plan_was(self):
        told = run(*PLANNED, back(), craft(10, 0, 5), area(1, 2, 20, 10), take())
        self.assertEqual(told[4:7], [[2], [2], [0]])

    def test_twenty_can_be_taken_back(self):
        changes = [area(j, 0, 10, 10) for j in range(1, 21)]
        told = run(PLAIN, *changes, state(), *[back() for unused in range(20)], size(), back(), state())
        self.assertEqual(told[21], [0, 0, 0, 20, 0])
        self.assertEqual(told[22:42], [[left] for left in range(19, -1, -1)])
        self.assertEqual(told[42:], [[231, 0, 0, 20, 10], [-2], [0, 0, 0, 0, 20]])

    def test_a_twenty_first_cannot(self):
        for count in (21, 22, 50):
            changes = [area(j, 0, 10, 10) for j in range(1, count + 1)]
            told = run(PLAIN, *changes, state(), *[back() for unused in range(20)], size(), back(), size(), state())
            told = told[count + 1:]
            self.assertEqual(told[0], [0, 0, 0, 20, 0])
            self.assertEqual(told[1:21], [[left] for left in range(19, -1, -1)])
            oldest = [121, count - 20, 0, 10, 10]
            self.assertEqual(told[21:], [oldest, [-2], oldest, [0, 0, 0, 0, 20]])

    def test_all_twenty_can_be_done_again(self):
        changes = [area(j, 0, 10, 10) for j in range(1, 24)]
        twenty_back = [back() for unused in range(20)]
        each_again = [call for unused in range(20) for call in (again(), size())]
        told = run(PLAIN, *changes, *twenty_back, *each_again, again(), state(), *twenty_back, back(), size())[44:]
        self.assertEqual(told[0:40:2], [[left] for left in range(19, -1, -1)])
        self.assertEqual(told[1:40:2], [[121, j, 0, 10, 10] for j in range(4, 24)])
        self.assertEqual(told[40:42], [[-2], [0, 0, 0, 20, 0]])
        self.assertEqual(told[62:], [[-2], [121, 3, 0, 10, 10]])

    def test_of_all_five_sorts_the_last_twenty(self):
        rounds = [craft(10, 0, 100), area(0, 0, 20, 10), take(), hours(3), drop(0)]
        told = run(PLAIN, *(rounds * 5), *[call for unused in range(21) for call in (back(), state())])[26:]
        self.assertEqual(told[0::2], [[left] for left in range(19, -1, -1)] + [[-2]])
        standing_then = [[0, 0, 0], [0, 1, 0], [0, 1, 0], [0, 1, 1], [3, 1, 1]]
        expected = [standing_then[(24 - j) % 5] + [19 - j, j + 1] for j in range(20)]
        self.assertEqual(told[1:-1:2], expected)

    def test_without_a_change(self):
        self.refused(-2, (PLAIN,), back(), ())
        self.refused(-2, (PLAIN,), again(), ())
        self.refused(-2, (PLAIN, craft(1, 1, 1), back()), back(), ())
        self.refused(-2, (PLAIN, craft(1, 1, 1)), again(), ())
        self.refused(-2, (PLAIN, craft(1, 1, 1), back(), again()), again(), ())

    def test_the_one_taken_back_last_is_done_again_first(self):
        told = run(PLAIN, area(1, 0, 5, 5), area(2, 0, 5, 5), back(), back(), again(), size(), again(), size())
        self.assertEqual(told[3:], [[1], [0], [1], [36, 1, 0, 5, 5], [0], [36, 2, 0, 5, 5]])


class AgainTest(CallsCase):
    def test_behind_another_change_there_is_none(self):
        for before, change, answer in CHANGES:
            # Two that can be done again, and the change in their place.
            before = before + self.two_taken_back(before)
            told = run(*before, state(), change, state(), again(), back(), state(), again(), again())[len(before):]
            made = told[0][3]
            self.assertEqual(told[0][4], 2, change)
            self.assertEqual(told[1], answer, change)
            self.assertEqual(told[2][3:], [made + 1, 0], change)
            self.assertEqual(told[3:5], [[-2], [made]], change)
            self.assertEqual(told[5], told[0][:4] + [1], change)
            self.assertEqual(told[6:], [[0], [-2]], change)

    def two_taken_back(self, before):
        if take() in before:
            return (hours(1), hours(1), back(), back())
        return (area(1, 1, 1, 1), area(2, 2, 2, 2), back(), back())

    def test_questions_and_refusals_are_no_changes(self):
        before = PLANNED + (hours(3), hours(2), back())
        plain = run(*before, back(), again(), again(), *QUESTIONS)[len(before):]
        for call in NO_CHANGES:
            told = run(*before, call, back(), again(), again(), *QUESTIONS)[len(before) + 1:]
            self.assertEqual(told, plain, call)
            told = run(*before, back(), call, again(), call, again(), call, *QUESTIONS)[len(before):]
            self.assertEqual([told[0], told[2], told[4]] + told[6:], plain, call)

    def test_a_change_that_changes_nothing_is_one(self):
        told = run(PLAIN, area(0, 0, 20, 10), state(), area(1, 1, 1, 1), back(), area(0, 0, 20, 10), state(), again())
        self.assertEqual(told[2], [0, 0, 0, 1, 0])
        self.assertEqual(told[6:], [[0, 0, 0, 2, 0], [-2]])

    def test_behind_a_start_there_are_none(self):
        for before in (TWO, PLANNED + (hours(2),), PLANNED + (back(),), PLANNED + (back(), back(), back(), back())):
            told = run(*before, start(0, 0, 20, 10), state(), back(), again(), state(), craft(1, 1, 1), back(), back())
            none = [0, 0, 0, 0, 0]
            self.assertEqual(told[len(before):], [[0], none, [-2], [-2], none, [0], [0], [-2]])

    def test_behind_a_refused_start_they_are_as_they_were(self):
        for given in BAD:
            self.refused(-22, PLANNED + (hours(2), hours(3), back()), start(*given), (again(), back(), back()))


class StateTest(CallsCase):
    def test_hour_craft_plan_and_changes(self):
        calls = (
            PLAIN, craft(10, 0, 100), craft(10, 0, 5), area(0, 0, 20, 10), take(), hours(4), hours(15), back(), back(),
            again(), drop(1), drop(0), back(),
        )
        told = run(*[call for one in calls for call in (one, state())])[1::2]
        self.assertEqual(told, [
            [0, 0, 0, 0, 0],
            [0, 1, 0, 1, 0],
            [0, 2, 0, 2, 0],
            [0, 2, 0, 3, 0],
            [0, 2, 1, 4, 0],
            [4, 2, 1, 5, 0],
            [19, 2, 1, 6, 0],
            [4, 2, 1, 5, 1],
            [0, 2, 1, 4, 2],
            [4, 2, 1, 5, 1],
            [0, 1, 0, 6, 0],
            [0, 0, 0, 7, 0],
            [0, 1, 0, 6, 1],
        ])


class Replayed:
    """The changes that stand, as a plain list of calls."""

    def __init__(self):
        self.begin = None
        self.made = []
        self.undone = []
        self.left = 0

    def note(self, call, answer):
        """What the call should have answered, where it's a start, a back or an again; else its answer."""
        if call[0] == 19:
            return self.note_back()
        if call[0] == 20:
            return self.note_again()
        if answer[0] >= 0 and call[0] == 0:
            self.begin, self.made, self.undone, self.left = call, [], [], 0
        if answer[0] >= 0 and 1 <= call[0] <= 5:
            self.made.append(call)
            self.undone = []
            self.left = min(20, self.left + 1)
        return answer

    def note_back(self):
        if self.left == 0:
            return [-2]
        self.left -= 1
        self.undone.append(self.made.pop())
        return [self.left]

    def note_again(self):
        if not self.undone:
            return [-2]
        self.left += 1
        self.made.append(self.undone.pop())
        return [len(self.undone)]


def some_call(chance):
    return chance.choice((
        start(chance.choice((0, 0, 0, 100001)), 0, chance.choice((0, 0, 0, 0, 9)), 5),
        craft(chance.randint(0, 9), chance.choice((0, 1, 2, 201)), chance.randint(1, 30)),
        craft(chance.randint(1, 20), chance.randint(0, 3), 100),
        area(chance.randint(-5, 5), 3, chance.randint(0, 9), chance.randint(1, 9)),
        drop(chance.randint(0, 9)),
        take(), take(), hours(chance.randint(0, 5)), hours(chance.randint(1, 2)),
        back(), back(), back(), back(), again(), again(), again(), state(), ends(), where(0), soonest(), legs(1),
    ))


class ReplayTest(CallsCase):
    def test_what_stands_is_what_the_changes_that_stand_make(self):
        chance = random.Random(7)
        for unused in range(40):
            calls = [start(0, 0, 6, 6)] + [some_call(chance) for unused_too in range(chance.randint(20, 200))]
            told = run(*calls, *QUESTIONS)
            kept = Replayed()
            for call, answer in zip(calls, told):
                self.assertEqual(answer, kept.note(call, answer), calls)
            anew = run(kept.begin, *kept.made, *QUESTIONS)[len(kept.made) + 1:]
            self.assertEqual(standing(told[len(calls):]), standing(anew), calls)
            self.assertEqual(told[-1][3:], [kept.left, len(kept.undone)], calls)
