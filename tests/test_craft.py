"""Point 2: sl_craft, sl_area and sl_drop."""

from tests.helper import HIGHEST, CallsCase, alone, area, by, craft, drop, hours, legs, plan, run, soonest, start, take
from tests.test_start import BAD, GOOD

PLAIN = start(0, 0, 20, 10)
FOUR = (craft(10, 0, 100), craft(20, 1, 90), craft(30, 2, 80), craft(40, 3, 70))
LOOKS = (by(0, 2), by(1, 2), plan(), legs(0), legs(3), hours(1), soonest(), drop(0), drop(2))

GOOD_CRAFT = ((1, 0, 1), (500, 0, 1), (1, 200, 1), (1, 0, 100), (500, 200, 100), (10, 5, 50))
BAD_CRAFT = (
    (0, 5, 10),
    (501, 5, 10),
    (10, 201, 10),
    (10, 5, 0),
    (10, 5, 101),
    (HIGHEST, 5, 10),
    (10, HIGHEST, 10),
    (10, 5, HIGHEST),
    (0, 201, 101),
)


class CraftTest(CallsCase):
    def test_craft_as_told_are_taken(self):
        for given in GOOD_CRAFT:
            self.assertEqual(self.last(PLAIN, craft(*given)), [0], given)

    def test_other_craft_are_refused(self):
        for given in BAD_CRAFT:
            self.refused(-22, (PLAIN, FOUR[0]), craft(*given), LOOKS)

    def test_each_is_numbered_behind_the_last(self):
        self.assertEqual(run(PLAIN, *FOUR), [[0], [0], [1], [2], [3]])

    def test_a_fifth_is_refused(self):
        self.refused(-28, (PLAIN,) + FOUR, craft(10, 0, 10), LOOKS)

    def test_with_a_plan_none_is_added(self):
        self.refused(-16, (PLAIN, FOUR[0], FOUR[1], take()), craft(10, 0, 10), LOOKS)

    def test_not_as_told_goes_ahead_of_a_fifth_and_of_a_plan(self):
        for given in BAD_CRAFT:
            self.refused(-22, (PLAIN,) + FOUR, craft(*given), LOOKS)
            self.refused(-22, (PLAIN, FOUR[0], take()), craft(*given), LOOKS)
            self.refused(-22, (PLAIN,) + FOUR + (take(),), craft(*given), LOOKS)

    def test_a_fifth_goes_ahead_of_a_plan(self):
        self.refused(-28, (PLAIN,) + FOUR + (take(),), craft(10, 0, 10), LOOKS)

    def test_its_speed_sight_and_hours_are_kept(self):
        # 30 long: at 30 an hour one leg in the first hour, a strip of 5 and the next leg in 65.
        told = run(start(0, 0, 30, 90), craft(30, 2, 3), by(0, 0), by(0, 1), by(0, 2), by(0, 3), by(0, 100))
        self.assertEqual(told[2:], [[0, 91], [5, 91], [5, 91], [10, 91], [10, 91]])


class AreaTest(CallsCase):
    def test_areas_as_told_are_taken_and_the_craft_stay(self):
        for given in GOOD:
            told = run(PLAIN, FOUR[1], area(*given), by(0, 0), by(1, 0), drop(0))
            self.assertEqual(told[2:], [[0], [0, given[3] + 1], [0, given[2] + 1], [0]], given)

    def test_other_areas_are_refused(self):
        for given in BAD:
            self.refused(-22, (PLAIN, FOUR[0]), area(*given), LOOKS)

    def test_with_a_plan_it_stays(self):
        for given in GOOD:
            self.refused(-16, (PLAIN, FOUR[0], take(), hours(1)), area(*given), LOOKS)

    def test_not_as_told_goes_ahead_of_a_plan(self):
        for given in BAD:
            self.refused(-22, (PLAIN, FOUR[0], take(), hours(1)), area(*given), LOOKS)

    def test_a_plan_is_made_for_the_new_area(self):
        told = run(start(0, 0, 500, 500), craft(10, 0, 100), take(), area(0, 0, 10, 1), take(), plan())
        self.assertEqual(told[2:], [[-33], [0], [3, 1], [3, 1, 2, 0, 0, 0]])


class DropTest(CallsCase):
    def test_how_many_are_left(self):
        told = run(PLAIN, *FOUR, drop(3), drop(0), drop(1), drop(0), drop(0))
        self.assertEqual(told[5:], [[3], [2], [1], [0], [-2]])

    def test_one_that_is_not_there(self):
        for k in (2, 3, 4, HIGHEST):
            self.refused(-2, (PLAIN, FOUR[0], FOUR[1]), drop(k), LOOKS)
            self.refused(-2, (PLAIN, FOUR[0], FOUR[1], take(), hours(1)), drop(k), LOOKS)

    def test_those_behind_have_a_number_less(self):
        for k in range(4):
            rest = [FOUR[j] for j in range(4) if j != k]
            looks = [alone(j, way) for j in range(4) for way in (0, 1)] + [by(0, 1), by(1, 2), take(), plan()]
            dropped = run(PLAIN, *FOUR, drop(k), *looks)
            self.assertEqual(dropped[6:], run(PLAIN, *rest, *looks)[4:], k)

    def test_the_next_is_numbered_behind_those_left(self):
        told = run(PLAIN, *FOUR, drop(1), craft(1, 1, 1), craft(1, 1, 1), alone(3, 0))
        self.assertEqual(told[5:], [[3], [3], [-28], [-33]])

    def test_the_plan_is_gone(self):
        for k in (0, 1):
            told = run(PLAIN, FOUR[0], FOUR[1], take(), drop(k), plan(), legs(0), hours(1), area(0, 0, 5, 5), FOUR[2])
            self.assertEqual(told[4:], [[1], [-6], [-6], [-6], [0], [1]])

    def test_it_is_hour_0(self):
        told = run(PLAIN, FOUR[0], FOUR[1], take(), hours(2), drop(1), take(), hours(1))
        self.assertEqual(told[4], [2])
        self.assertEqual(told[-1], [1])

    def test_the_last_one_behind_a_plan(self):
        told = run(PLAIN, FOUR[0], take(), drop(0), take(), soonest())
        self.assertEqual(told[3:], [[0], [-33], [-33]])
