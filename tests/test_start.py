"""Point 1: sl_start, and that nothing of before is left behind it."""

from tests.helper import HIGHEST, CallsCase, area, by, craft, drop, hours, legs, plan, run, soonest, start, take

GOOD = (
    (0, 0, 1, 1),
    (-100000, 0, 10, 10),
    (100000, 0, 10, 10),
    (0, -100000, 10, 10),
    (0, 100000, 10, 10),
    (0, 0, 500, 10),
    (0, 0, 10, 500),
    (100000, 100000, 500, 500),
    (-100000, -100000, 1, 500),
)

BAD = (
    (-100001, 0, 10, 10),
    (100001, 0, 10, 10),
    (0, -100001, 10, 10),
    (0, 100001, 10, 10),
    (-2147483648, 0, 10, 10),
    (0, 2147483647, 10, 10),
    (0, 0, 0, 10),
    (0, 0, 10, 0),
    (0, 0, 501, 10),
    (0, 0, 10, 501),
    (0, 0, HIGHEST, 10),
    (0, 0, 10, HIGHEST),
    (100001, 100001, 0, 501),
)


class StartTest(CallsCase):
    def test_areas_as_told_are_taken(self):
        for given in GOOD:
            told = run(start(*given), by(0, 0), by(1, 0))
            self.assertEqual(told, [[0], [0, given[3] + 1], [0, given[2] + 1]], given)

    def test_other_areas_are_refused(self):
        for given in BAD:
            self.assertEqual(run(start(*given)), [[-22]], given)

    def test_refused_ahead_of_the_first_that_is_taken(self):
        refused = [start(*given) for given in BAD]
        told = run(*refused, start(7, 8, 20, 30), by(0, 0), soonest(), plan())
        self.assertEqual(told, [[-22]] * len(BAD) + [[0], [0, 31], [-33], [-6]])

    def test_a_new_area_has_no_craft_and_no_plan(self):
        told = run(start(0, 0, 10, 10), legs(0), drop(0), plan(), hours(1), soonest(), take(), by(0, 100), by(1, 100))
        self.assertEqual(told, [[0], [-2], [-2], [-6], [-6], [-33], [-33], [0, 11], [0, 11]])

    def test_called_again_all_is_new(self):
        before = (start(0, 0, 20, 10), craft(10, 1, 50), craft(20, 2, 50), take(), hours(1))
        told = run(*before, start(5, 6, 30, 40), by(0, 100), by(1, 100), drop(0), plan(), craft(50, 0, 100))
        self.assertEqual(told[len(before):], [[0], [0, 41], [0, 31], [-2], [-6], [0]])

    def test_called_again_the_hour_is_0(self):
        calls = (craft(10, 0, 100), take(), hours(3))
        told = run(start(0, 0, 20, 10), *calls, start(0, 0, 20, 10), *calls)
        self.assertEqual(told[:4], told[4:])
        self.assertEqual(told[3], [3])

    def test_refused_later_all_stays(self):
        looks = (by(0, 3), by(1, 3), plan(), legs(0), legs(1), hours(2), drop(1), area(1, 1, 2, 2))
        before = (start(0, 0, 20, 10), craft(10, 0, 50), craft(7, 1, 50), take(), hours(1))
        for given in BAD:
            self.refused(-22, before, start(*given), looks)
