"""The calls on one search, and the refusals. Each call answers a list: its number first, then what else it tells."""

from searchlegs.changes import Changes
from searchlegs.course import Course, is_within, legs_done
from searchlegs.legs import (
    MOST_HOURS,
    Area,
    Craft,
    best_plan,
    distance_of_legs,
    least_hours,
    legs_needed,
    most_legs,
    places_across,
    places_before,
    places_seen,
)

NO_SUCH_CRAFT = -2
NO_SUCH_LEG = -2
NO_SUCH_CHANGE = -2
NO_PLAN = -6
PLAN_STANDS = -16
PLAN_TAKEN = -17
NOT_AS_TOLD = -22
NO_MORE_CRAFT = -28
CANNOT_BE_DONE = -33
NO_LEGS = -33
BEYOND_PLAN = -75

FARTHEST_PLACE = 100000
LONGEST_SIDE = 500
MOST_CRAFT = 4
MOST_SPEED = 500
MOST_SEE = 200


def is_area(x, y, wide, high):
    return (
        -FARTHEST_PLACE <= x <= FARTHEST_PLACE
        and -FARTHEST_PLACE <= y <= FARTHEST_PLACE
        and 1 <= wide <= LONGEST_SIDE
        and 1 <= high <= LONGEST_SIDE
    )


def is_craft(speed, see, hours):
    return 1 <= speed <= MOST_SPEED and 0 <= see <= MOST_SEE and 1 <= hours <= MOST_HOURS


def way_sign(way):
    # The document tells a way the other way round when it's answered: 1 for way 0.
    return 1 if way == 0 else 0


class Search:
    """One object of the document: an area, craft, a plan or none, which hour it is, and the changes made."""

    def __init__(self):
        self.put((None, [], None, 0))
        self.changes = Changes()

    def standing(self):
        """All that a change may change. Its parts are never changed themselves, only others put in their place."""
        return (self.area, self.crafts, self.plan, self.hour)

    def put(self, parts):
        self.area = parts[0]
        self.crafts = parts[1]
        self.plan = parts[2]
        self.hour = parts[3]

    def change(self, area, crafts, plan, hour):
        self.changes.made(self.standing())
        self.put((area, crafts, plan, hour))

    def sl_start(self, x, y, wide, high):
        if not is_area(x, y, wide, high):
            return [NOT_AS_TOLD]
        self.put((Area(x, y, wide, high), [], None, 0))
        self.changes = Changes()
        return [0]

    def sl_craft(self, speed, see, hours):
        if not is_craft(speed, see, hours):
            return [NOT_AS_TOLD]
        if len(self.crafts) == MOST_CRAFT:
            return [NO_MORE_CRAFT]
        if self.plan is not None:
            return [PLAN_STANDS]
        self.change(self.area, self.crafts + [Craft(speed, see, hours)], self.plan, self.hour)
        return [len(self.crafts) - 1]

    def sl_area(self, x, y, wide, high):
        if not is_area(x, y, wide, high):
            return [NOT_AS_TOLD]
        if self.plan is not None:
            return [PLAN_STANDS]
        self.change(Area(x, y, wide, high), self.crafts, self.plan, self.hour)
        return [0]

    def sl_drop(self, k):
        if k >= len(self.crafts):
            return [NO_SUCH_CRAFT]
        self.change(self.area, self.crafts[:k] + self.crafts[k + 1:], None, 0)
        return [len(self.crafts)]

    def sl_take(self):
        if self.plan is not None:
            return [PLAN_TAKEN]
        plan = best_plan(self.area, self.crafts)
        if plan is None:
            return [CANNOT_BE_DONE]
        self.change(self.area, self.crafts, plan, 0)
        return [plan.hours, way_sign(plan.way)]

    def sl_hours(self, n):
        if not 1 <= n <= MOST_HOURS:
            return [NOT_AS_TOLD]
        if self.plan is None:
            return [NO_PLAN]
        if self.hour + n > self.plan.hours:
            return [BEYOND_PLAN]
        self.change(self.area, self.crafts, self.plan, self.hour + n)
        return [self.hour]

    def sl_alone(self, k, way):
        if k >= len(self.crafts):
            return [NO_SUCH_CRAFT]
        if way > 1:
            return [NOT_AS_TOLD]
        craft = self.crafts[k]
        hours = least_hours(self.area, [craft], way)
        if hours is None:
            return [CANNOT_BE_DONE]
        return [hours, legs_needed(craft, places_across(self.area, way))]

    def sl_soonest(self):
        plan = best_plan(self.area, self.crafts)
        if plan is None:
            return [CANNOT_BE_DONE]
        return [plan.hours, way_sign(plan.way)]

    def sl_by(self, way, t):
        if way > 1 or t > MOST_HOURS:
            return [NOT_AS_TOLD]
        across = places_across(self.area, way)
        return [min(across, places_seen(self.area, self.crafts, way, t)), across]

    def sl_plan(self):
        if self.plan is None:
            return [NO_PLAN]
        # The row is as long whatever craft there are: one that isn't there takes no legs.
        missing = [0] * (MOST_CRAFT - len(self.crafts))
        return [self.plan.hours, way_sign(self.plan.way)] + self.plan.shares + missing

    def sl_legs(self, k):
        if k >= len(self.crafts):
            return [NO_SUCH_CRAFT]
        if self.plan is None:
            return [NO_PLAN]
        legs = self.plan.shares[k]
        distance = distance_of_legs(self.area, self.crafts[k], self.plan.way, legs)
        return [legs, distance, places_before(self.crafts, self.plan, k)]

    def course_of(self, k):
        return Course(self.area, self.crafts, self.plan, k)

    def sights_of(self, x, y):
        """For each craft, in how many hours it sees the place, or None."""
        return [self.course_of(k).hours_to_see(x, y) for k in range(len(self.crafts))]

    def sl_leg(self, k, i):
        if k >= len(self.crafts):
            return [NO_SUCH_CRAFT]
        if self.plan is None:
            return [NO_PLAN]
        course = self.course_of(k)
        if i >= course.legs:
            return [NO_SUCH_LEG]
        return [0] + course.place_on(i, 0) + course.place_on(i, course.long)

    def sl_where(self, k):
        if k >= len(self.crafts):
            return [NO_SUCH_CRAFT]
        if self.plan is None:
            return [NO_PLAN]
        course = self.course_of(k)
        if course.legs == 0:
            return [NO_LEGS]
        done = legs_done(self.area, self.crafts[k], self.plan, k, self.hour)
        return [course.leg_by(self.hour)] + course.place_by(self.hour) + [done]

    def sl_when(self, x, y):
        if not is_within(self.area, x, y):
            return [NOT_AS_TOLD]
        if self.plan is None:
            return [NO_PLAN]
        sights = self.sights_of(x, y)
        first = min([hours for hours in sights if hours is not None])
        # The first one in the list is the least craft of those with like hours.
        return [first, sights.index(first)]

    def sl_seen(self, x, y):
        if not is_within(self.area, x, y):
            return [NOT_AS_TOLD]
        if self.plan is None:
            return [NO_PLAN]
        sights = self.sights_of(x, y)
        return [len([hours for hours in sights if hours is not None and hours <= self.hour])]

    def sl_most(self, k, way, t):
        if k >= len(self.crafts):
            return [NO_SUCH_CRAFT]
        if way > 1 or t > MOST_HOURS:
            return [NOT_AS_TOLD]
        craft = self.crafts[k]
        legs = most_legs(self.area, craft, way, t)
        return [legs, min(places_across(self.area, way), legs * craft.strip)]

    def sl_look(self, k):
        if k >= len(self.crafts):
            return [NO_SUCH_CRAFT]
        craft = self.crafts[k]
        return [craft.speed, craft.see, craft.hours, craft.strip]

    def sl_size(self):
        area = self.area
        return [(area.wide + 1) * (area.high + 1), area.x, area.y, area.wide, area.high]

    def sl_ends(self):
        if self.plan is None:
            return [NO_PLAN]
        done = [legs_done(self.area, craft, self.plan, k, self.hour) for k, craft in enumerate(self.crafts)]
        return [self.plan.hours - self.hour, sum(done), sum(self.plan.shares)]

    def sl_back(self):
        if len(self.changes.behind) == 0:
            return [NO_SUCH_CHANGE]
        self.put(self.changes.take_back(self.standing()))
        return [len(self.changes.behind)]

    def sl_again(self):
        if len(self.changes.ahead) == 0:
            return [NO_SUCH_CHANGE]
        self.put(self.changes.do_again(self.standing()))
        return [len(self.changes.ahead)]

    def sl_state(self):
        planned = 0 if self.plan is None else 1
        return [self.hour, len(self.crafts), planned, len(self.changes.behind), len(self.changes.ahead)]
