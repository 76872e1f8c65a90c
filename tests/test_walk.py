"""What holds: every place is seen, within the area, seen stays seen; against a walk along the legs step by step."""

import random
import unittest

from tests.helper import back, craft, ends, hours, leg, legs, most, plan, run, seen, start, take, when, where
from tests.test_holds import LARGE, MIDDLE, SMALL, legs_by_walking, long_and_across

WEST, SOUTH = -3, -4


def begin(wide, high, crafts):
    return [start(WEST, SOUTH, wide, high)] + [craft(*one) for one in crafts]


def steps_of_legs(see, first, count, long, across):
    """For each place far that a craft goes: its leg, how far along, how far across, legs done, if it's on the leg."""
    steps = []
    for i in range(count):
        line = min(first + see, across - 1)
        for far in range(long + 1):
            steps.append((i, far if i % 2 == 0 else long - far, line, i + (far == long), True))
        if i + 1 < count:
            steps.extend([steps[-1][:4] + (False,)] * (2 * see))
        first += 2 * see + 1
    return steps


def walks(wide, high, crafts, told_plan):
    """The steps of each craft by the plan."""
    long, across = long_and_across(wide, high, 1 - told_plan[1])
    first = 0
    made = []
    for (unused, see, unused_too), count in zip(crafts, told_plan[2:]):
        made.append(steps_of_legs(see, first, count, long, across))
        first += count * (2 * see + 1)
    return made


def place(way, along, beside):
    return (WEST + along, SOUTH + beside) if way == 0 else (WEST + beside, SOUTH + along)


def sights(one, steps, way, across):
    """For each place that the craft sees, in how many hours it does, hour by hour."""
    speed, see, unused = one
    seen_in = {}
    for far, (unused, along, line, unused_too, on_leg) in enumerate(steps):
        hour = 0
        while speed * hour < far:
            hour += 1
        for beside in range(max(0, line - see), min(across - 1, line + see) + 1):
            if on_leg:
                seen_in.setdefault(place(way, along, beside), hour)
    return seen_in


def planned(searches):
    """The searches that can be done, with their plans, and the walks of their craft."""
    made = []
    for wide, high, crafts in searches:
        told = run(*begin(wide, high, crafts), take(), plan())
        if told[-1] != [-6]:
            made.append((wide, high, crafts, told[-1], walks(wide, high, crafts, told[-1])))
    return made


PLANNED_SMALL = planned(SMALL)
PLANNED_MIDDLE = planned(MIDDLE)
PLANNED_LARGE = planned(LARGE)


class WalkTest(unittest.TestCase):
    def test_there_are_enough_of_each_sort(self):
        self.assertGreater(min(len(PLANNED_SMALL), len(PLANNED_MIDDLE), len(PLANNED_LARGE)), 20)
        for sign in (0, 1):
            self.assertGreater(len([one for one in PLANNED_SMALL if one[3][1] == sign]), 20)
            self.assertGreater(len([one for one in PLANNED_MIDDLE if one[3][1] == sign]), 20)

    def test_each_leg_is_as_walked_and_within_the_area(self):
        for wide, high, crafts, told_plan, made in PLANNED_SMALL + PLANNED_MIDDLE + PLANNED_LARGE:
            before = begin(wide, high, crafts) + [take()]
            for k, steps in enumerate(made):
                count = told_plan[2 + k]
                told = run(*before, *[leg(k, i) for i in range(count + 1)])[len(before):]
                self.assertEqual(told[count], [-2])
                for i in range(count):
                    on_it = [place(1 - told_plan[1], step[1], step[2]) for step in steps if step[0] == i and step[4]]
                    self.assertEqual(told[i], [0, *on_it[0], *on_it[-1]], (wide, high, crafts, k, i))
                    for x, y in (told[i][1:3], told[i][3:5]):
                        self.assertTrue(WEST <= x <= WEST + wide and SOUTH <= y <= SOUTH + high)

    def test_where_each_is_and_what_is_done_at_each_hour(self):
        for wide, high, crafts, told_plan, made in PLANNED_SMALL + PLANNED_MIDDLE + PLANNED_LARGE:
            before = begin(wide, high, crafts) + [take()]
            asked = [where(k) for k in range(len(crafts))] + [ends()]
            each = [call for unused in range(told_plan[0]) for call in [hours(1)] + asked]
            told = run(*before, *asked, *each)[len(before):]
            for hour in range(told_plan[0] + 1):
                at = hour * (len(asked) + 1)
                done = 0
                for k, steps in enumerate(made):
                    expected = [-33]
                    if steps:
                        i, along, line, ended, unused = steps[min(crafts[k][0] * hour, len(steps) - 1)]
                        expected = [i, *place(1 - told_plan[1], along, line), ended]
                        done += ended
                    self.assertEqual(told[at + k], expected, (wide, high, crafts, hour, k))
                self.assertEqual(told[at + len(crafts)], [told_plan[0] - hour, done, sum(told_plan[2:])])

    def test_in_the_end_all_legs_are_done(self):
        for wide, high, crafts, told_plan, unused in PLANNED_SMALL + PLANNED_MIDDLE + PLANNED_LARGE:
            told = run(*begin(wide, high, crafts), take(), hours(told_plan[0]), ends())
            self.assertEqual(told[-1], [0, sum(told_plan[2:]), sum(told_plan[2:])], (wide, high, crafts))

    def check_places(self, search, places):
        """When and by whom each of the places is seen, and by how many at each of some hours."""
        wide, high, crafts, told_plan, made = search
        way = 1 - told_plan[1]
        seen_in = [sights(one, steps, way, long_and_across(wide, high, way)[1]) for one, steps in zip(crafts, made)]
        before = begin(wide, high, crafts) + [take()]
        told = run(*before, *[when(*spot) for spot in places])[len(before):]
        for spot, answer in zip(places, told):
            first = min((found[spot], k) for k, found in enumerate(seen_in) if spot in found)
            self.assertEqual(answer, list(first), (search[:4], spot))
            self.assertLessEqual(answer[0], told_plan[0])
        counts = [0] * len(places)
        for hour in sorted({0, 1, told_plan[0] // 2, told_plan[0] - 1, told_plan[0]}):
            go_by = [hours(hour)] if hour else []
            told = run(*before, *go_by, *[seen(*spot) for spot in places])[len(before) + len(go_by):]
            for spot, answer in zip(places, told):
                by_now = len([found for found in seen_in if found.get(spot, 101) <= hour])
                self.assertEqual(answer, [by_now], (search[:4], spot, hour))
            self.assertTrue(all(now[0] >= then for now, then in zip(told, counts)))
            counts = [now[0] for now in told]
        self.assertGreaterEqual(min(counts), 1, search[:4])

    def test_every_place_of_small_searches(self):
        for search in PLANNED_SMALL:
            wide, high = search[:2]
            self.check_places(search, [(WEST + x, SOUTH + y) for x in range(wide + 1) for y in range(high + 1)])

    def test_some_places_of_larger_searches(self):
        chance = random.Random(5)
        for search in PLANNED_MIDDLE[:60]:
            wide, high = search[:2]
            corners = [(WEST + x, SOUTH + y) for x in (0, wide) for y in (0, high)]
            some = [(WEST + chance.randint(0, wide), SOUTH + chance.randint(0, high)) for unused in range(200)]
            self.check_places(search, corners + some)

    def test_some_places_are_seen_by_two(self):
        unlike = 0
        like = 0
        for wide, high, crafts, told_plan, made in PLANNED_SMALL:
            way = 1 - told_plan[1]
            seen_in = [sights(one, steps, way, long_and_across(wide, high, way)[1]) for one, steps in zip(crafts, made)]
            for spot in [spot for found in seen_in for spot in found]:
                found = [there[spot] for there in seen_in if spot in there]
                like += len(found) == 2 and found[0] == found[1]
                unlike += len(found) == 2 and found[0] != found[1]
        self.assertGreater(min(like, unlike), 20)

    def test_the_most_legs_and_more_time_sees_more(self):
        for wide, high, crafts in SMALL[:60] + MIDDLE[:60] + LARGE[:60]:
            before = begin(wide, high, crafts)
            for k, one in enumerate(crafts):
                for way in (0, 1):
                    long, across = long_and_across(wide, high, way)
                    told = run(*before, *[most(k, way, t) for t in range(101)])[len(before):]
                    for t in range(101):
                        count = legs_by_walking(one, long, across, t)
                        come = min(across, count * (2 * one[1] + 1))
                        self.assertEqual(told[t], [count, come], (wide, high, one, way, t))
                    self.assertEqual(told, sorted(told))

    def test_seen_stays_seen_till_the_hours_are_taken_back(self):
        for wide, high, crafts, told_plan, unused in PLANNED_SMALL:
            asked = [seen(WEST + x, SOUTH + y) for x in (0, wide) for y in (0, high)] + [legs(0)]
            told = run(*begin(wide, high, crafts), take(), *asked, hours(told_plan[0]), *asked, back(), *asked)
            told = told[len(crafts) + 2:]
            self.assertEqual(told[:5], told[-5:])
            self.assertGreaterEqual(min(answer[0] for answer in told[6:10]), 1)
