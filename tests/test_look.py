"""Point 4, sl_most, and of point 6 sl_look, sl_size and sl_ends."""

from tests.helper import (
    HIGHEST, CallsCase, area, back, by, craft, drop, ends, hours, legs, look, most, plan, run, size, soonest, start, take,
)
from tests.test_craft import GOOD_CRAFT
from tests.test_start import BAD, GOOD

LOOKS = (plan(), by(0, 1), by(1, 1), hours(1), soonest(), legs(0))
# Way 0 legs of 20 over 11 places, way 1 legs of 10 over 21.
TWO = (start(0, 0, 20, 10), craft(10, 0, 5), craft(30, 2, 100))
# Craft 1 does 2 of the 11 legs in the 5 hours that it can be out, craft 0 the others in 19.
PLANNED = (start(0, 0, 20, 10), craft(10, 0, 100), craft(10, 0, 5), take())


class MostTest(CallsCase):
    def most_at(self, k, way, *asked):
        return run(*TWO, *[most(k, way, t) for t in asked])[len(TWO):]

    def test_legs_and_places_to_the_east_and_west(self):
        # Strips of 5: 20, 45 and 70 far.
        self.assertEqual(self.most_at(1, 0, 0, 1, 2), [[0, 0], [1, 5], [2, 10]])

    def test_legs_and_places_to_the_north_and_south(self):
        # 10, 25, 40, 55 far.
        self.assertEqual(self.most_at(1, 1, 0, 1, 2), [[0, 0], [2, 10], [4, 20]])

    def test_at_most_all_places(self):
        self.assertEqual(self.most_at(1, 0, 3, 4), [[3, 11], [5, 11]])
        self.assertEqual(self.most_at(1, 1, 3), [[6, 21]])

    def test_at_most_as_many_legs_as_places(self):
        self.assertEqual(self.most_at(1, 0, 9, 10, 100), [[11, 11], [11, 11], [11, 11]])
        self.assertEqual(self.most_at(1, 1, 10, 11, 100), [[20, 21], [21, 21], [21, 21]])

    def test_no_longer_than_it_can_be_out(self):
        self.assertEqual(self.most_at(0, 0, 2, 4, 5, 6, 100), [[1, 1], [1, 1], [2, 2], [2, 2], [2, 2]])
        self.assertEqual(self.most_at(0, 1, 1, 4, 5, 6, 100), [[1, 1], [3, 3], [4, 4], [4, 4], [4, 4]])

    def test_just_as_far_as_the_legs_are(self):
        for speed, told in ((44, [1, 5]), (45, [2, 10]), (69, [2, 10]), (70, [3, 11]), (19, [0, 0]), (20, [1, 5])):
            self.assertEqual(self.last(TWO[0], craft(speed, 2, 100), most(0, 0, 1)), told, speed)

    def test_a_plan_changes_nothing(self):
        told = run(*TWO, most(0, 0, 3), most(1, 1, 2), take(), hours(1), most(0, 0, 3), most(1, 1, 2))
        self.assertEqual(told[3:5], told[7:])

    def test_a_craft_that_is_not_there_goes_first(self):
        for k in (2, 3, 4, HIGHEST):
            for way, t in ((0, 1), (2, 1), (0, 101), (HIGHEST, HIGHEST)):
                self.refused(-2, TWO, most(k, way, t), LOOKS)

    def test_no_such_way_or_too_long(self):
        for way, t in ((2, 0), (2, 100), (2, 101), (0, 101), (1, 101), (HIGHEST, 1), (1, HIGHEST)):
            for k in (0, 1):
                self.refused(-22, TWO, most(k, way, t), LOOKS)
                self.refused(-22, TWO + (take(),), most(k, way, t), LOOKS)


class LookTest(CallsCase):
    def test_speed_sight_hours_and_strip(self):
        for speed, see, out in GOOD_CRAFT:
            self.assertEqual(self.last(TWO[0], craft(speed, see, out), look(0)), [speed, see, out, 2 * see + 1])

    def test_each_by_its_number(self):
        self.assertEqual(run(*TWO, look(0), look(1))[3:], [[10, 0, 5, 1], [30, 2, 100, 5]])
        self.assertEqual(run(*TWO, drop(0), look(0), look(1))[4:], [[30, 2, 100, 5], [-2]])

    def test_with_a_plan_and_hours_gone_by(self):
        self.assertEqual(self.last(*TWO, take(), hours(1), look(1)), [30, 2, 100, 5])

    def test_one_that_is_not_there(self):
        for k in (2, 3, 4, HIGHEST):
            self.refused(-2, TWO, look(k), LOOKS)
            self.refused(-2, TWO + (take(),), look(k), LOOKS)
        self.refused(-2, TWO[:1], look(0), LOOKS)


class SizeTest(CallsCase):
    def test_places_and_area(self):
        for x, y, wide, high in GOOD:
            told = [(wide + 1) * (high + 1), x, y, wide, high]
            self.assertEqual(self.last(start(x, y, wide, high), size()), told)
            self.assertEqual(self.last(*TWO, area(x, y, wide, high), size()), told)

    def test_counted_by_hand(self):
        self.assertEqual(self.last(start(-7, -8, 3, 4), size()), [20, -7, -8, 3, 4])
        self.assertEqual(self.last(start(-100000, 100000, 500, 500), size()), [251001, -100000, 100000, 500, 500])

    def test_with_a_plan(self):
        self.assertEqual(self.last(*TWO, take(), hours(1), size()), [231, 0, 0, 20, 10])

    def test_a_refused_area_is_not_told(self):
        for given in BAD:
            self.assertEqual(self.last(*TWO, area(*given), start(*given), size()), [231, 0, 0, 20, 10])


class EndsTest(CallsCase):
    def ends_at(self, before, *asked):
        told = []
        for hour in asked:
            go_by = (hours(hour),) if hour else ()
            told.append(self.last(*before, *go_by, ends()))
        return told

    def test_legs_done_legs_in_all_and_hours_left(self):
        # In 2 hours each has done one; in 5 craft 0 has done two, 41 far, and craft 1 both of its own.
        told = self.ends_at(PLANNED, 0, 1, 2, 4, 5, 6, 7, 18, 19)
        self.assertEqual(told[:4], [[19, 0, 11], [18, 0, 11], [17, 2, 11], [15, 2, 11]])
        self.assertEqual(told[4:], [[14, 4, 11], [13, 4, 11], [12, 5, 11], [1, 10, 11], [0, 11, 11]])

    def test_the_other_way(self):
        # 2 legs of 30 to the north and south, a strip of 7 between them.
        before = (start(7, -5, 9, 30), craft(1, 3, 100), take())
        told = self.ends_at(before, 0, 29, 30, 36, 37, 66, 67)
        self.assertEqual(told[:4], [[67, 0, 2], [38, 0, 2], [37, 1, 2], [31, 1, 2]])
        self.assertEqual(told[4:], [[30, 1, 2], [1, 1, 2], [0, 2, 2]])

    def test_no_more_are_done_than_are_taken(self):
        # It could do 21 legs in the hour, and takes 4; the craft behind takes none.
        before = (start(0, 0, 20, 10), craft(500, 1, 100), craft(500, 0, 100), take())
        self.assertEqual(self.ends_at(before, 0, 1), [[1, 0, 4], [0, 4, 4]])

    def test_without_a_plan(self):
        self.refused(-6, TWO, ends(), LOOKS)
        self.refused(-6, TWO[:1], ends(), LOOKS)
        self.refused(-6, PLANNED + (hours(3), drop(1)), ends(), LOOKS)
        self.refused(-6, PLANNED + (hours(3), back(), back()), ends(), LOOKS)
