"""Point 5: sl_leg and sl_where; where strips and legs lie, and where a craft is on them."""

from tests.helper import (
    HIGHEST, CallsCase, area, back, by, craft, drop, hours, leg, legs, plan, run, soonest, start, take, where,
)

LOOKS = (plan(), by(0, 1), hours(1), soonest(), legs(0))

# Way 0: legs of 20, strips of 5 over 11 places; the middle of the third strip would be place 12.
EAST = start(-5, 7, 20, 10)
# Way 1: legs of 30, strips of 7 over 10 places; the middle of the second strip would be place 10.
NORTH = start(7, -5, 9, 30)
NORTH_CRAFT = craft(1, 3, 100)
# Craft 1 does 2 of the 11 legs in the 5 hours that it can be out, craft 0 the others in 19.
TWO = (start(0, 0, 20, 10), craft(10, 0, 100), craft(10, 0, 5))
# Craft 0 sees all in an hour; nothing is left for craft 1.
IDLE = (start(0, 0, 20, 10), craft(500, 1, 100), craft(500, 0, 100))
# Craft 0 isn't at the end of a leg in the hour that craft 1 needs.
SLOW = (start(0, 0, 20, 10), craft(1, 0, 100), craft(500, 1, 100))


class LegTest(CallsCase):
    def test_to_and_fro_to_the_east_and_west(self):
        told = run(EAST, craft(30, 2, 100), take(), legs(0), leg(0, 0), leg(0, 1), leg(0, 2), leg(0, 3))
        self.assertEqual(told[2:4], [[3, 1], [3, 70, 0]])
        self.assertEqual(told[4:], [[0, -5, 9, 15, 9], [0, 15, 14, -5, 14], [0, -5, 17, 15, 17], [-2]])

    def test_to_and_fro_to_the_north_and_south(self):
        told = run(NORTH, NORTH_CRAFT, take(), legs(0), leg(0, 0), leg(0, 1), leg(0, 2))
        self.assertEqual(told[2:4], [[67, 0], [2, 67, 0]])
        self.assertEqual(told[4:], [[0, 10, -5, 10, 25], [0, 16, 25, 16, -5], [-2]])

    def test_a_last_strip_that_ends_with_the_area(self):
        # 10 places, 2 strips of 5: both have their middle in the area.
        told = run(start(-5, 7, 20, 9), craft(45, 2, 100), take(), leg(0, 0), leg(0, 1))
        self.assertEqual(told[2:], [[1, 1], [0, -5, 9, 15, 9], [0, 15, 14, -5, 14]])

    def test_a_last_strip_with_its_middle_on_the_last_place(self):
        # 8 places: the second strip's middle is place 7, the last one.
        told = run(start(-5, 7, 20, 7), craft(45, 2, 100), take(), leg(0, 0), leg(0, 1))
        self.assertEqual(told[2:], [[1, 1], [0, -5, 9, 15, 9], [0, 15, 14, -5, 14]])

    def test_a_last_strip_with_its_middle_one_beyond(self):
        told = run(start(-5, 7, 20, 6), craft(45, 2, 100), take(), leg(0, 0), leg(0, 1))
        self.assertEqual(told[2:], [[1, 1], [0, -5, 9, 15, 9], [0, 15, 13, -5, 13]])

    def test_one_strip_that_is_broader_than_the_area(self):
        told = run(start(-5, 7, 20, 10), craft(20, 200, 100), take(), leg(0, 0), leg(0, 1))
        self.assertEqual(told[2:], [[1, 1], [0, -5, 17, 15, 17], [-2]])
        told = run(start(-5, 7, 20, 10), craft(10, 200, 100), take(), leg(0, 0), leg(0, 1))
        self.assertEqual(told[2:], [[1, 0], [0, 15, 7, 15, 17], [-2]])

    def test_each_craft_begins_with_a_leg_to_the_east(self):
        told = run(*TWO, take(), leg(0, 0), leg(0, 7), leg(0, 8), leg(1, 0), leg(1, 1))
        self.assertEqual(told[4:7], [[0, 0, 0, 20, 0], [0, 20, 7, 0, 7], [0, 0, 8, 20, 8]])
        self.assertEqual(told[7:], [[0, 0, 9, 20, 9], [0, 20, 10, 0, 10]])

    def test_strips_of_four_craft_one_behind_another(self):
        told = run(
            start(-50, -9, 100, 19), craft(100, 0, 9), craft(100, 1, 9), craft(100, 2, 9), craft(100, 5, 9),
            take(), leg(0, 0), leg(1, 0), leg(2, 0), leg(3, 0),
        )
        self.assertEqual(told[6:8], [[0, -50, -9, 50, -9], [0, -50, -7, 50, -7]])
        self.assertEqual(told[8:], [[0, -50, -3, 50, -3], [0, -50, 5, 50, 5]])

    def test_a_craft_ahead_that_takes_none_leaves_no_gap(self):
        told = run(*SLOW, take(), leg(0, 0), leg(1, 0), leg(1, 3))
        self.assertEqual(told[4:], [[-2], [0, 0, 1, 20, 1], [0, 20, 10, 0, 10]])

    def test_a_craft_that_is_not_there_goes_first(self):
        for k in (2, 3, 4, HIGHEST):
            for i in (0, HIGHEST):
                self.refused(-2, TWO, leg(k, i), LOOKS)
                self.refused(-2, TWO + (take(),), leg(k, i), LOOKS)

    def test_without_a_plan(self):
        for i in (0, 1, 2, 9, HIGHEST):
            self.refused(-6, TWO, leg(1, i), LOOKS)
            self.refused(-6, TWO + (take(), drop(0)), leg(0, i), LOOKS)
            self.refused(-6, TWO + (take(), back()), leg(1, i), LOOKS)

    def test_a_leg_that_it_does_not_take(self):
        for k, i in ((0, 9), (0, 10), (1, 2), (1, 8), (1, HIGHEST)):
            self.refused(-2, TWO + (take(),), leg(k, i), LOOKS)
        for i in (0, 1, HIGHEST):
            self.refused(-2, IDLE + (take(),), leg(1, i), LOOKS)

    def test_hours_that_go_by_change_nothing(self):
        told = run(*TWO, take(), leg(0, 0), leg(1, 1), hours(19), leg(0, 0), leg(1, 1))
        self.assertEqual(told[4:6], told[7:])


class WhereTest(CallsCase):
    def at_each_hour(self, before, k, *asked):
        """Where craft k is at each of the hours, each by a search of its own."""
        told = []
        for hour in asked:
            go_by = (hours(hour),) if hour else ()
            told.append(self.last(*before, take(), *go_by, where(k)))
        return told

    def test_to_the_east_and_west(self):
        # 25 far is the second leg's beginning, 50 the third's; 70 is the end.
        told = self.at_each_hour((EAST, craft(30, 2, 100)), 0, 0, 1, 2, 3)
        self.assertEqual(told, [[0, -5, 9, 0], [1, 10, 14, 1], [2, 5, 17, 2], [2, 15, 17, 3]])

    def test_to_the_north_and_south(self):
        told = self.at_each_hour((NORTH, NORTH_CRAFT), 0, 0, 1, 29, 30, 31, 36, 37, 38, 66, 67)
        self.assertEqual(told[:5], [[0, 10, -5, 0], [0, 10, -4, 0], [0, 10, 24, 0], [0, 10, 25, 1], [0, 10, 25, 1]])
        self.assertEqual(told[5:], [[0, 10, 25, 1], [1, 16, 25, 1], [1, 16, 24, 1], [1, 16, -4, 1], [1, 16, -5, 2]])

    def test_in_the_middle_of_a_leg(self):
        self.assertEqual(self.at_each_hour((EAST, craft(10, 2, 100)), 0, 1, 4), [[0, 5, 9, 0], [1, 0, 14, 1]])

    def test_at_the_end_of_a_leg(self):
        self.assertEqual(self.at_each_hour((EAST, craft(10, 2, 100)), 0, 2), [[0, 15, 9, 1]])
        self.assertEqual(self.at_each_hour((EAST, craft(45, 2, 100)), 0, 1), [[1, -5, 14, 2]])

    def test_just_ahead_of_the_end_of_a_leg(self):
        self.assertEqual(self.at_each_hour((EAST, craft(19, 2, 100)), 0, 1), [[0, 14, 9, 0]])

    def test_between_two_legs(self):
        for speed in (21, 22, 24):
            self.assertEqual(self.at_each_hour((EAST, craft(speed, 2, 100)), 0, 1), [[0, 15, 9, 1]], speed)
        for speed in (46, 49):
            self.assertEqual(self.at_each_hour((EAST, craft(speed, 2, 100)), 0, 1), [[1, -5, 14, 2]], speed)

    def test_just_at_the_beginning_of_the_next_leg(self):
        self.assertEqual(self.at_each_hour((EAST, craft(25, 2, 100)), 0, 1), [[1, 15, 14, 1]])
        self.assertEqual(self.at_each_hour((EAST, craft(50, 2, 100)), 0, 1), [[2, -5, 17, 2]])

    def test_just_behind_the_beginning_of_the_next_leg(self):
        self.assertEqual(self.at_each_hour((EAST, craft(26, 2, 100)), 0, 1), [[1, 14, 14, 1]])
        self.assertEqual(self.at_each_hour((EAST, craft(51, 2, 100)), 0, 1), [[2, -4, 17, 2]])

    def test_it_stays_where_its_last_leg_ends(self):
        # Craft 1, out for 5 of the 19 hours, is 41 far then, at its end.
        told = self.at_each_hour(TWO, 1, 0, 2, 4, 5, 6, 18, 19)
        self.assertEqual(told[:3], [[0, 0, 9, 0], [0, 20, 9, 1], [1, 1, 10, 1]])
        self.assertEqual(told[3:], [[1, 0, 10, 2]] * 4)

    def test_it_goes_no_farther_than_its_legs(self):
        # 4 legs and 3 strips are 89 far, it could go 500 in the plan's only hour.
        self.assertEqual(self.at_each_hour(IDLE, 0, 0, 1), [[0, 0, 1, 0], [3, 0, 10, 4]])

    def test_a_craft_that_is_not_there_goes_first(self):
        for k in (2, 3, 4, HIGHEST):
            self.refused(-2, TWO, where(k), LOOKS)
            self.refused(-2, TWO + (take(),), where(k), LOOKS)

    def test_without_a_plan(self):
        for k in (0, 1):
            self.refused(-6, TWO, where(k), LOOKS)
            self.refused(-6, TWO + (take(), hours(3), back(), back()), where(k), LOOKS)
        self.refused(-6, TWO + (take(), drop(0)), where(0), LOOKS)
        # Without a plan it takes no legs either.
        self.refused(-6, IDLE, where(1), LOOKS)

    def test_a_craft_that_takes_no_legs(self):
        self.refused(-33, IDLE + (take(),), where(1), LOOKS)
        self.refused(-33, IDLE + (take(), hours(1)), where(1), LOOKS)
        self.refused(-33, SLOW + (take(),), where(0), LOOKS)

    def test_in_the_area_of_now(self):
        told = run(start(0, 0, 5, 5), craft(30, 2, 100), area(-5, 7, 20, 10), take(), where(0), leg(0, 2))
        self.assertEqual(told[4:], [[0, -5, 9, 0], [0, -5, 17, 15, 17]])
