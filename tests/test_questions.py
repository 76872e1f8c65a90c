"""Point 4: sl_alone, sl_soonest and sl_by."""

from tests.helper import HIGHEST, CallsCase, alone, by, craft, hours, plan, run, soonest, start, take

LOOKS = (plan(), by(0, 1), by(1, 1), hours(1), soonest())
TWO = (start(0, 0, 20, 10), craft(10, 0, 100), craft(30, 2, 100))


class AloneTest(CallsCase):
    def test_hours_and_legs_either_way(self):
        # Craft 1, its strip 5: way 0 3 legs of 20 and 2 strips, 70 far; way 1 5 legs of 10 and 4 strips, also 70.
        told = run(*TWO, alone(0, 0), alone(0, 1), alone(1, 0), alone(1, 1))
        self.assertEqual(told[3:], [[23, 11], [23, 21], [3, 3], [3, 5]])

    def test_no_more_legs_than_that_takes(self):
        # In its one hour it could do more than the 2 legs that 11 places take.
        self.assertEqual(self.last(start(0, 0, 20, 10), craft(500, 4, 100), alone(0, 0)), [1, 2])

    def test_a_strip_as_broad_as_the_area(self):
        self.assertEqual(self.last(start(0, 0, 20, 10), craft(10, 5, 100), alone(0, 0)), [2, 1])
        self.assertEqual(self.last(start(0, 0, 20, 11), craft(20, 5, 100), alone(0, 0)), [3, 2])
        self.assertEqual(self.last(start(0, 0, 20, 10), craft(1, 200, 100), alone(0, 1)), [10, 1])

    def test_a_plan_changes_nothing(self):
        told = run(*TWO, alone(0, 0), alone(1, 1), take(), hours(1), alone(0, 0), alone(1, 1))
        self.assertEqual(told[3:5], told[7:])

    def test_a_craft_that_is_not_there_goes_first(self):
        for k in (2, 3, 4, HIGHEST):
            for way in (0, 1, 2, HIGHEST):
                self.refused(-2, TWO, alone(k, way), LOOKS)

    def test_no_such_way(self):
        for way in (2, 3, HIGHEST):
            self.refused(-22, TWO, alone(1, way), LOOKS)
            self.refused(-22, (start(0, 0, 500, 500), craft(1, 0, 1)), alone(0, way), LOOKS)

    def test_what_it_cannot_do_alone(self):
        before = (start(0, 0, 20, 10), craft(10, 0, 22), craft(10, 0, 23))
        for way in (0, 1):
            self.refused(-33, before, alone(0, way), LOOKS)
            self.assertEqual(self.last(*before, alone(1, way))[0], 23)

    def test_one_way_alone(self):
        before = (start(0, 0, 100, 10), craft(10, 5, 5))
        self.assertEqual(self.last(*before, alone(0, 0)), [-33])
        self.assertEqual(self.last(start(0, 0, 100, 10), craft(10, 5, 10), alone(0, 0)), [10, 1])
        self.assertEqual(self.last(start(0, 0, 100, 10), craft(10, 5, 10), alone(0, 1)), [-33])


class SoonestTest(CallsCase):
    def test_way_and_hours(self):
        self.assertEqual(self.last(start(0, 0, 40, 2), craft(1, 1, 100), soonest()), [40, 1])
        self.assertEqual(self.last(start(0, 0, 2, 40), craft(1, 1, 100), soonest()), [40, 0])

    def test_of_like_hours_way_0(self):
        self.assertEqual(self.last(start(0, 0, 20, 10), craft(10, 0, 100), soonest()), [23, 1])
        self.assertEqual(self.last(start(0, 0, 10, 20), craft(10, 0, 100), soonest()), [23, 1])

    def test_only_one_way_can_be_done(self):
        self.assertEqual(self.last(start(0, 0, 100, 10), craft(10, 5, 10), soonest()), [10, 1])
        self.assertEqual(self.last(start(0, 0, 10, 100), craft(10, 5, 10), soonest()), [10, 0])

    def test_it_takes_no_plan(self):
        told = run(*TWO, soonest(), plan(), take(), hours(1), soonest())
        self.assertEqual(told[3], told[7])
        self.assertEqual(told[4], [-6])
        self.assertEqual(told[3], told[5])

    def test_what_cannot_be_done(self):
        self.refused(-33, (start(0, 0, 20, 10),), soonest(), LOOKS[:-1])
        self.refused(-33, (start(0, 0, 20, 10), craft(10, 0, 22)), soonest(), LOOKS[:-1])
        self.refused(-33, (start(0, 0, 500, 500), craft(500, 0, 100)), soonest(), LOOKS[:-1])


class ByTest(CallsCase):
    def test_places_seen_and_places_across(self):
        # Craft 0 does a leg of 20 in 2 hours; craft 1 one in 1 hour, a second, 45 far, in 2, a third, 70, in 3.
        told = run(*TWO, by(0, 0), by(0, 1), by(0, 2), by(0, 3))
        self.assertEqual(told[3:], [[0, 11], [5, 11], [11, 11], [11, 11]])

    def test_the_other_way(self):
        # 10 long: craft 0 a leg in 1 hour, 21 far need 3; craft 1 two, 25 far, in 1 hour, 4, 55 far, in 2.
        told = run(*TWO, by(1, 0), by(1, 1), by(1, 2), by(1, 3))
        self.assertEqual(told[3:], [[0, 21], [11, 21], [21, 21], [21, 21]])

    def test_at_most_all_places(self):
        self.assertEqual(self.last(*TWO, by(0, 100)), [11, 11])
        self.assertEqual(self.last(start(0, 0, 1, 1), craft(500, 200, 100), by(1, 100)), [2, 2])

    def test_no_craft_sees_none(self):
        self.assertEqual(self.last(start(0, 0, 20, 10), by(1, 100)), [0, 21])

    def test_no_longer_than_it_can_be_out(self):
        told = run(start(0, 0, 20, 100), craft(20, 0, 5), by(0, 4), by(0, 5), by(0, 6), by(0, 100))
        self.assertEqual(told[2:], [[3, 101], [4, 101], [4, 101], [4, 101]])

    def test_refused(self):
        for way, t in ((2, 0), (2, 101), (0, 101), (1, 101), (HIGHEST, 1), (1, HIGHEST)):
            self.refused(-22, TWO, by(way, t), LOOKS)
            self.refused(-22, TWO + (take(),), by(way, t), LOOKS)

    def test_a_plan_changes_nothing(self):
        told = run(*TWO, by(0, 1), by(1, 2), take(), hours(1), by(0, 1), by(1, 2))
        self.assertEqual(told[3:5], told[7:])
