"""What holds: every place is seen, no sooner, more time sees more; against plain counts over many searches."""

import itertools
import random
import unittest

from tests.helper import alone, by, craft, legs, plan, run, soonest, start, take


def long_and_across(wide, high, way):
    return (wide, high + 1) if way == 0 else (high, wide + 1)


def legs_by_walking(one, long, across, t):
    """How many legs are done, leg by leg, with what the craft goes in t hours."""
    speed, see, out = one
    left = speed * min(t, out)
    done = 0
    while done < across and left >= long + (2 * see + 1 if done else 0):
        left -= long + (2 * see + 1 if done else 0)
        done += 1
    return done


def done_by_some_sharing(crafts, long, across, t):
    """Whether any numbers of legs, none farther than its craft goes in t hours, come to all places across."""
    choices = []
    for speed, see, out in crafts:
        strip = 2 * see + 1
        fits = [n for n in range(across + 1) if n == 0 or n * long + (n - 1) * strip <= speed * min(t, out)]
        choices.append(fits)
    for shares in itertools.product(*choices):
        if sum(n * (2 * one[1] + 1) for n, one in zip(shares, crafts)) >= across:
            return True
    return False


def hours_by_walking(crafts, wide, high, way):
    long, across = long_and_across(wide, high, way)
    for t in range(101):
        if sum(legs_by_walking(one, long, across, t) * (2 * one[1] + 1) for one in crafts) >= across:
            return t
    return None


def searches(seed, count, side, fastest, farthest, longest):
    """Searches of a fixed sort, the same each time."""
    chance = random.Random(seed)
    made = []
    for unused in range(count):
        crafts = [
            (chance.randint(1, fastest), chance.randint(0, farthest), chance.randint(1, longest))
            for unused_too in range(chance.randint(1, 4))
        ]
        made.append((chance.randint(1, side), chance.randint(1, side), crafts))
    return made


SMALL = searches(1, 300, 6, 6, 2, 12)
MIDDLE = searches(2, 300, 60, 60, 10, 100)
LARGE = searches(3, 100, 500, 500, 200, 100)


def begin(wide, high, crafts):
    return [start(-3, 4, wide, high)] + [craft(*one) for one in crafts]


def expected_soonest(wide, high, crafts):
    either = [hours_by_walking(crafts, wide, high, way) for way in (0, 1)]
    if either == [None, None]:
        return [-33]
    if either[0] is None or (either[1] is not None and either[1] < either[0]):
        return [either[1], 0]
    return [either[0], 1]


def places_seen_by(wide, high, crafts, told_plan, told_legs):
    """The places that the plan's strips and legs see within its hours, as the document lays them."""
    hours, sign = told_plan[0], told_plan[1]
    long, across = long_and_across(wide, high, 1 - sign)
    seen = {}
    for (speed, see, out), (count, far, before) in zip(crafts, told_legs):
        strip = 2 * see + 1
        for i in range(count):
            middle = min(before + i * strip + see, across - 1)
            for along in range(long + 1):
                if i * (long + strip) + along <= speed * min(hours, out):
                    place = along if i % 2 == 0 else long - along
                    for beside in range(max(0, middle - see), min(across - 1, middle + see) + 1):
                        seen[(place, beside)] = True
    return len(seen)


class HoldsTest(unittest.TestCase):
    def test_soonest_and_alone_are_the_least_hours(self):
        for wide, high, crafts in SMALL + MIDDLE + LARGE:
            before = begin(wide, high, crafts)
            asked = [alone(k, way) for k in range(len(crafts)) for way in (0, 1)]
            told = run(*before, soonest(), take(), *asked)[len(before):]
            self.assertEqual(told[0], expected_soonest(wide, high, crafts), (wide, high, crafts))
            self.assertEqual(told[1], told[0])
            for (unused, k, way), answer in zip(asked, told[2:]):
                hours = hours_by_walking([crafts[k]], wide, high, way)
                across = long_and_across(wide, high, way)[1]
                needed = -(-across // (2 * crafts[k][1] + 1))
                self.assertEqual(answer, [-33] if hours is None else [hours, needed], (wide, high, crafts, k, way))

    def test_no_sharing_does_it_sooner(self):
        for wide, high, crafts in SMALL:
            told = run(*begin(wide, high, crafts), soonest())[-1]
            last = 100 if told == [-33] else told[0] - 1
            for way in (0, 1):
                long, across = long_and_across(wide, high, way)
                self.assertFalse(done_by_some_sharing(crafts, long, across, last), (wide, high, crafts, way))

    def test_every_place_is_seen_within_the_hours(self):
        for wide, high, crafts in SMALL + MIDDLE:
            before = begin(wide, high, crafts)
            asked = [legs(k) for k in range(len(crafts))]
            told = run(*before, take(), plan(), *asked)[len(before):]
            if told[0] != [-33]:
                seen = places_seen_by(wide, high, crafts, told[1], told[2:])
                self.assertEqual(seen, (wide + 1) * (high + 1), (wide, high, crafts))

    def test_the_plan_is_shared_out_craft_by_craft(self):
        for wide, high, crafts in SMALL + MIDDLE + LARGE:
            before = begin(wide, high, crafts)
            asked = [legs(k) for k in range(len(crafts))]
            told = run(*before, take(), plan(), *asked)[len(before):]
            if told[0] == [-33]:
                self.assertEqual(told[1:], [[-6]] * (1 + len(crafts)))
                continue
            hours, sign = told[0]
            long, across = long_and_across(wide, high, 1 - sign)
            come = 0
            shares = []
            for one, answer in zip(crafts, told[2:]):
                strip = 2 * one[1] + 1
                can = legs_by_walking(one, long, across, hours)
                count = 0
                before_it = come
                while count < can and come < across:
                    come += strip
                    count += 1
                far = count * long + (count - 1) * strip if count else 0
                self.assertEqual(answer, [count, far, before_it], (wide, high, crafts))
                shares.append(count)
            self.assertEqual(told[1], [hours, sign] + shares + [0] * (4 - len(crafts)), (wide, high, crafts))

    def test_more_time_sees_more_and_what_is_seen_is_counted(self):
        for wide, high, crafts in SMALL[:60] + MIDDLE[:60] + LARGE[:60]:
            before = begin(wide, high, crafts)
            for way in (0, 1):
                long, across = long_and_across(wide, high, way)
                told = run(*before, *[by(way, t) for t in range(101)])[len(before):]
                for t in range(101):
                    strips = [legs_by_walking(one, long, across, t) * (2 * one[1] + 1) for one in crafts]
                    self.assertEqual(told[t], [min(across, sum(strips)), across], (wide, high, crafts, way, t))
                self.assertEqual(told, sorted(told))
