"""The calls on one search, and the refusals. Each call answers a list: its number first, then what else it tells."""

from searchlegs.legs import (
    MOST_HOURS,
    Area,
    Craft,
    best_plan,
    distance_of_legs,
    least_hours,
    legs_needed,
    places_across,
    places_before,
    places_seen,
)

NO_SUCH_CRAFT = -2
NO_PLAN = -6
PLAN_STANDS = -16
PLAN_TAKEN = -17
NOT_AS_TOLD = -22
NO_MORE_CRAFT = -28
CANNOT_BE_DONE = -33
BEYOND_PLAN = -75

FARTHEST_PLACE = 100000
LONGEST_SIDE = 500
MOST_CRAFT = 4
MOST_SPEED = 500
MOST_SEE = 200


def is_area(x, y, wide, high):
    return (
        -FARTHEST_PLACE <= x <= FARTHEST_PLACE
        and -FARTHEST_PLACE <= y <= FARTHEST_PLACE
        and 1 <= wide <= LONGEST_SIDE
        and 1 <= high <= LONGEST_SIDE
    )


def is_craft(speed, see, hours):
    return 1 <= speed <= MOST_SPEED and 0 <= see <= MOST_SEE and 1 <= hours <= MOST_HOURS


def way_sign(way):
    # The document tells a way the other way round when it's answered: 1 for way 0.
    return 1 if way == 0 else 0


class Search:
    """One object of the document: an area, craft, a plan or none, and which hour it is."""

    def __init__(self):
        self.area = None
        self.crafts = []
        self.plan = None
        self.hour = 0

    def sl_start(self, x, y, wide, high):
        if not is_area(x, y, wide, high):
            return [NOT_AS_TOLD]
        self.area = Area(x, y, wide, high)
        self.crafts = []
        self.plan = None
        self.hour = 0
        return [0]

    def sl_craft(self, speed, see, hours):
        if not is_craft(speed, see, hours):
            return [NOT_AS_TOLD]
        if len(self.crafts) == MOST_CRAFT:
            return [NO_MORE_CRAFT]
        if self.plan is not None:
            return [PLAN_STANDS]
        self.crafts = self.crafts + [Craft(speed, see, hours)]
        return [len(self.crafts) - 1]

    def sl_area(self, x, y, wide, high):
        if not is_area(x, y, wide, high):
            return [NOT_AS_TOLD]
        if self.plan is not None:
            return [PLAN_STANDS]
        self.area = Area(x, y, wide, high)
        return [0]

    def sl_drop(self, k):
        if k >= len(self.crafts):
            return [NO_SUCH_CRAFT]
        self.crafts = self.crafts[:k] + self.crafts[k + 1:]
        self.plan = None
        self.hour = 0
        return [len(self.crafts)]

    def sl_take(self):
        if self.plan is not None:
            return [PLAN_TAKEN]
        plan = best_plan(self.area, self.crafts)
        if plan is None:
            return [CANNOT_BE_DONE]
        self.plan = plan
        self.hour = 0
        return [plan.hours, way_sign(plan.way)]

    def sl_hours(self, n):
        if not 1 <= n <= MOST_HOURS:
            return [NOT_AS_TOLD]
        if self.plan is None:
            return [NO_PLAN]
        if self.hour + n > self.plan.hours:
            return [BEYOND_PLAN]
        self.hour = self.hour + n
        return [self.hour]

    def sl_alone(self, k, way):
        if k >= len(self.crafts):
            return [NO_SUCH_CRAFT]
        if way > 1:
            return [NOT_AS_TOLD]
        craft = self.crafts[k]
        hours = least_hours(self.area, [craft], way)
        if hours is None:
            return [CANNOT_BE_DONE]
        return [hours, legs_needed(craft, places_across(self.area, way))]

    def sl_soonest(self):
        plan = best_plan(self.area, self.crafts)
        if plan is None:
            return [CANNOT_BE_DONE]
        return [plan.hours, way_sign(plan.way)]

    def sl_by(self, way, t):
        if way > 1 or t > MOST_HOURS:
            return [NOT_AS_TOLD]
        across = places_across(self.area, way)
        return [min(across, places_seen(self.area, self.crafts, way, t)), across]

    def sl_plan(self):
        if self.plan is None:
            return [NO_PLAN]
        # The row is as long whatever craft there are: one that isn't there takes no legs.
        missing = [0] * (MOST_CRAFT - len(self.crafts))
        return [self.plan.hours, way_sign(self.plan.way)] + self.plan.shares + missing

    def sl_legs(self, k):
        if k >= len(self.crafts):
            return [NO_SUCH_CRAFT]
        if self.plan is None:
            return [NO_PLAN]
        legs = self.plan.shares[k]
        distance = distance_of_legs(self.area, self.crafts[k], self.plan.way, legs)
        return [legs, distance, places_before(self.crafts, self.plan, k)]
