"""Point 5: sl_plan and sl_legs."""

from tests.helper import HIGHEST, CallsCase, by, craft, drop, hours, legs, plan, run, soonest, start, take

LOOKS = (plan(), by(0, 1), hours(1), soonest(), legs(0))
TWO = (start(0, 0, 20, 10), craft(10, 0, 100), craft(10, 0, 5))


class PlanTest(CallsCase):
    def test_without_a_plan(self):
        self.refused(-6, TWO, plan(), LOOKS[1:])
        self.refused(-6, TWO + (take(), drop(0)), plan(), LOOKS[1:])

    def test_hours_way_and_legs(self):
        self.assertEqual(self.last(*TWO, take(), plan()), [19, 1, 9, 2, 0, 0])

    def test_the_other_way(self):
        told = run(start(0, 0, 2, 40), craft(1, 1, 100), take(), plan(), legs(0))
        self.assertEqual(told[2:], [[40, 0], [40, 0, 1, 0, 0, 0], [1, 40, 0]])

    def test_craft_0_takes_as_many_as_it_can(self):
        # Way 1 11 legs of 10 and 10 strips of 1 are 120 far: craft 0 takes 11, and 10 of the 21 are left.
        told = run(start(0, 0, 20, 10), craft(10, 0, 100), craft(10, 0, 100), take(), plan(), legs(0), legs(1))
        self.assertEqual(told[3:], [[12, 0], [12, 0, 11, 10, 0, 0], [11, 120, 0], [10, 109, 11]])

    def test_no_more_than_are_needed(self):
        # In 1 hour craft 0 could do 21 legs of 20, 11 places take 4 of its strips of 3.
        told = run(start(0, 0, 20, 10), craft(500, 1, 100), take(), plan(), legs(0))
        self.assertEqual(told[2:], [[1, 1], [1, 1, 4, 0, 0, 0], [4, 89, 0]])

    def test_a_craft_behind_that_takes_none(self):
        told = run(start(0, 0, 20, 10), craft(500, 1, 100), craft(500, 0, 100), take(), plan(), legs(1))
        self.assertEqual(told[3:], [[1, 1], [1, 1, 4, 0, 0, 0], [0, 0, 12]])

    def test_a_craft_ahead_that_takes_none(self):
        # Craft 0 and 2 don't get to the end of a leg in the hour that craft 1 and 3 need.
        told = run(
            start(0, 0, 20, 10), craft(1, 0, 100), craft(45, 2, 9), craft(9, 200, 9), craft(20, 0, 9),
            take(), plan(), legs(0), legs(1), legs(2), legs(3),
        )
        self.assertEqual(told[5:], [[1, 1], [1, 1, 0, 2, 0, 1], [0, 0, 0], [2, 45, 0], [0, 0, 10], [1, 20, 10]])

    def test_four_craft(self):
        told = run(
            start(0, 0, 100, 19), craft(100, 0, 9), craft(100, 1, 9), craft(100, 2, 9), craft(100, 5, 9),
            take(), plan(), legs(0), legs(1), legs(2), legs(3),
        )
        self.assertEqual(told[5:7], [[1, 1], [1, 1, 1, 1, 1, 1]])
        self.assertEqual(told[7:], [[1, 100, 0], [1, 100, 1], [1, 100, 4], [1, 100, 9]])


class LegsTest(CallsCase):
    def test_how_many_how_far_and_behind_how_many_places(self):
        told = run(*TWO, take(), legs(0), legs(1))
        self.assertEqual(told[4:], [[9, 188, 0], [2, 41, 9]])

    def test_a_craft_that_is_not_there_goes_first(self):
        for k in (2, 3, 4, HIGHEST):
            self.refused(-2, TWO, legs(k), LOOKS)
            self.refused(-2, TWO + (take(),), legs(k), LOOKS)

    def test_without_a_plan(self):
        for k in (0, 1):
            self.refused(-6, TWO, legs(k), LOOKS)
        self.refused(-6, TWO + (take(), drop(1)), legs(0), LOOKS)

    def test_strips_are_counted_to_their_ends(self):
        # 4 strips of 3 come to 12 of 11 places; the craft behind begins, if it did, behind all 12.
        told = run(start(0, 0, 20, 10), craft(500, 1, 9), craft(1, 0, 9), craft(1, 0, 9), take(), legs(1), legs(2))
        self.assertEqual(told[5:], [[0, 0, 12], [0, 0, 12]])
