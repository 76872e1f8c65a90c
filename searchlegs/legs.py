"""The area, the craft, and what their legs come to, either way and in so many hours."""

# No craft can be out longer, so what isn't done by then is never done.
MOST_HOURS = 100


class Area:
    """A part of the sea, told by its south-west place and how far it goes to the east and to the north."""

    def __init__(self, x, y, wide, high):
        self.x = x
        self.y = y
        self.wide = wide
        self.high = high


class Craft:
    """How far it goes in an hour, how far it sees to either side, for how many hours it can be out."""

    def __init__(self, speed, see, hours):
        self.speed = speed
        self.see = see
        self.hours = hours
        self.strip = 2 * see + 1


class Plan:
    """Which way the legs lie, in how many hours it's done, and how many legs each craft takes."""

    def __init__(self, way, hours, shares):
        self.way = way
        self.hours = hours
        self.shares = shares


def leg_length(area, way):
    return area.wide if way == 0 else area.high


def places_across(area, way):
    # An area that goes so far has one place more: both its edges belong to it.
    return area.high + 1 if way == 0 else area.wide + 1


def distance_of_legs(area, craft, way, legs):
    if legs == 0:
        return 0
    return legs * leg_length(area, way) + (legs - 1) * craft.strip


def most_legs(area, craft, way, t):
    """How many legs the craft can do in t hours."""
    reach = craft.speed * min(t, craft.hours)
    # Every leg but the first has a strip ahead of it; a strip more of reach makes all legs cost the same.
    legs = (reach + craft.strip) // (leg_length(area, way) + craft.strip)
    return min(legs, places_across(area, way))


def places_seen(area, crafts, way, t):
    """How many places across the strips of all craft come to in t hours, more than there are or not."""
    return sum([most_legs(area, craft, way, t) * craft.strip for craft in crafts])


def is_done(area, crafts, way, t):
    return places_seen(area, crafts, way, t) >= places_across(area, way)


def least_hours(area, crafts, way):
    """The least hours in which it's done that way, or None if it can't be done."""
    if not is_done(area, crafts, way, MOST_HOURS):
        return None
    # More time never sees less, so each look halves what is open: not done in too_few, done in enough.
    too_few = 0
    enough = MOST_HOURS
    while enough - too_few > 1:
        middle = (too_few + enough) // 2
        if is_done(area, crafts, way, middle):
            enough = middle
        else:
            too_few = middle
    return enough


def legs_needed(craft, places):
    """How many legs of the craft have strips that come to so many places, rounded up."""
    return (places + craft.strip - 1) // craft.strip


def shared_out(area, crafts, way, hours):
    """How many legs each craft takes, craft by craft, till all places across are come to."""
    shares = []
    left = places_across(area, way)
    for craft in crafts:
        legs = min(most_legs(area, craft, way, hours), legs_needed(craft, left))
        shares.append(legs)
        left = max(0, left - legs * craft.strip)
    return shares


def best_plan(area, crafts):
    """The plan of the way that takes fewer hours, of like ones way 0; None if neither can be done."""
    best_way = None
    best_hours = None
    for way in (0, 1):
        hours = least_hours(area, crafts, way)
        if hours is not None and (best_hours is None or hours < best_hours):
            best_way = way
            best_hours = hours
    if best_way is None:
        return None
    return Plan(best_way, best_hours, shared_out(area, crafts, best_way, best_hours))


def places_before(crafts, plan, k):
    """How many places across the strips of the craft ahead of craft k come to."""
    return sum([plan.shares[j] * crafts[j].strip for j in range(k)])
