"""Where the legs of a plan lie, where a craft is on them, and when it sees a place."""

from searchlegs.legs import distance_of_legs, leg_length, most_legs, places_across, places_before


def is_within(area, x, y):
    return area.x <= x <= area.x + area.wide and area.y <= y <= area.y + area.high


def legs_done(area, craft, plan, k, hour):
    """How many legs craft k has done to their ends in so many hours of the plan."""
    return min(plan.shares[k], most_legs(area, craft, plan.way, hour))


class Course:
    """The legs that one craft takes by a plan, one behind another, with the strips between them."""

    def __init__(self, area, crafts, plan, k):
        self.area = area
        self.craft = crafts[k]
        self.way = plan.way
        self.legs = plan.shares[k]
        self.before = places_before(crafts, plan, k)
        self.long = leg_length(area, plan.way)
        # How far it is from the beginning of one leg to the beginning of the next.
        self.pitch = self.long + self.craft.strip

    def line_of(self, i):
        """The place across along which leg i goes."""
        middle = self.before + i * self.craft.strip + self.craft.see
        return min(middle, places_across(self.area, self.way) - 1)

    def along_leg(self, i, far):
        """How far from the west or the south what is so far from the beginning of leg i lies, or the reverse."""
        return far if i % 2 == 0 else self.long - far

    def place_on(self, i, far):
        """x, y so far from the beginning of leg i."""
        along = self.along_leg(i, far)
        across = self.line_of(i)
        if self.way == 0:
            return [self.area.x + along, self.area.y + across]
        return [self.area.x + across, self.area.y + along]

    def gone_by(self, hour):
        """How far it has gone; it stays where its last leg ends."""
        whole = distance_of_legs(self.area, self.craft, self.way, self.legs)
        return min(self.craft.speed * hour, whole)

    def leg_by(self, hour):
        """On which leg it is; between two legs on the one it comes from."""
        return self.gone_by(hour) // self.pitch

    def place_by(self, hour):
        """x, y where it is; between two legs the end of the one it comes from."""
        far = self.gone_by(hour) % self.pitch
        return self.place_on(self.leg_by(hour), min(far, self.long))

    def first_leg_seeing(self, across):
        """The first leg that is no farther from a place across than the craft sees, or None."""
        own = (across - self.before) // self.craft.strip
        # Only the last leg may lie off the middle of its strip, and so see beyond the strip.
        for i in (own, self.legs - 1):
            if 0 <= i < self.legs and abs(across - self.line_of(i)) <= self.craft.see:
                return i
        return None

    def hours_to_see(self, x, y):
        """In how many hours, rounded up, it sees the place; None if it doesn't."""
        east = x - self.area.x
        north = y - self.area.y
        i = self.first_leg_seeing(north if self.way == 0 else east)
        if i is None:
            return None
        far = i * self.pitch + self.along_leg(i, east if self.way == 0 else north)
        return (far + self.craft.speed - 1) // self.craft.speed
