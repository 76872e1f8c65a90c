"""Point 3: sl_take and sl_hours."""

from tests.helper import HIGHEST, CallsCase, by, craft, drop, hours, legs, plan, run, soonest, start, take

LOOKS = (plan(), legs(0), by(0, 1), hours(1), soonest(), drop(0))

# 11 legs of 20 and 10 strips of 1 are 230 far: 23 hours. The other way 21 of 10 and 20 of 1: also 230.
ALIKE = (start(0, 0, 20, 10), craft(10, 0, 100))


class TakeTest(CallsCase):
    def test_of_like_hours_way_0(self):
        self.assertEqual(self.last(*ALIKE, take()), [23, 1])

    def test_way_0_if_it_takes_fewer(self):
        # One leg of 40; the other way 14 legs of 2 and 13 strips of 3, 67 far.
        self.assertEqual(self.last(start(0, 0, 40, 2), craft(1, 1, 100), take()), [40, 1])

    def test_way_1_if_it_takes_fewer(self):
        self.assertEqual(self.last(start(0, 0, 2, 40), craft(1, 1, 100), take()), [40, 0])

    def test_the_hours_are_rounded_up(self):
        self.assertEqual(self.last(start(0, 0, 20, 2), craft(19, 1, 100), take()), [2, 1])
        self.assertEqual(self.last(start(0, 0, 20, 2), craft(20, 1, 100), take()), [1, 1])

    def test_all_craft_together(self):
        # Way 0 one of them has 6 of the 11 legs, 125 far; way 1 one has 11 of the 21, 120 far.
        self.assertEqual(self.last(*ALIKE, craft(10, 0, 100), take()), [12, 0])

    def test_with_a_plan_it_is_refused(self):
        self.refused(-17, ALIKE + (take(),), take(), LOOKS)
        self.refused(-17, ALIKE + (take(), hours(5)), take(), LOOKS)

    def test_what_cannot_be_done_is_refused(self):
        self.refused(-33, (start(0, 0, 20, 10),), take(), LOOKS)
        self.refused(-33, (start(0, 0, 20, 10), craft(10, 0, 22)), take(), LOOKS)
        self.refused(-33, (start(0, 0, 500, 500), craft(500, 0, 100)), take(), LOOKS)

    def test_what_can_just_be_done_is_taken(self):
        self.assertEqual(self.last(start(0, 0, 20, 10), craft(10, 0, 23), take()), [23, 1])
        # Way 0 a leg of 100 takes all 100 hours; way 1 34 legs of 1 and 33 strips of 3 are 133 far.
        self.assertEqual(self.last(start(0, 0, 100, 1), craft(1, 1, 100), take()), [100, 1])
        self.assertEqual(self.last(start(0, 0, 100, 1), craft(1, 1, 99), take()), [-33])

    def test_a_craft_that_is_out_too_short_helps_as_far_as_it_goes(self):
        # Craft 1 does no more than 2 legs, 41 far, in its 5 hours; craft 0 has 9 to do, 188 far: 19 hours.
        told = run(*ALIKE, craft(10, 0, 5), take(), plan())
        self.assertEqual(told[3:], [[19, 1], [19, 1, 9, 2, 0, 0]])


class HoursTest(CallsCase):
    def test_so_many_go_by(self):
        told = run(*ALIKE, take(), hours(1), hours(5), hours(10), hours(7))
        self.assertEqual(told[3:], [[1], [6], [16], [23]])

    def test_all_at_once(self):
        self.assertEqual(self.last(*ALIKE, take(), hours(23)), [23])

    def test_a_hundred(self):
        # One leg of 100 at 1 an hour, and the other way no sooner.
        told = run(start(0, 0, 100, 100), craft(1, 50, 100), take(), hours(100), hours(1))
        self.assertEqual(told[2:], [[100, 1], [100], [-75]])

    def test_not_1_to_100_is_refused(self):
        for n in (0, 101, HIGHEST):
            self.refused(-22, ALIKE, hours(n), LOOKS)
            self.refused(-22, ALIKE + (take(),), hours(n), LOOKS)
            self.refused(-22, ALIKE + (take(), hours(23)), hours(n), LOOKS)

    def test_without_a_plan_it_is_refused(self):
        for n in (1, 23, 24, 100):
            self.refused(-6, ALIKE, hours(n), LOOKS)

    def test_beyond_the_plan_it_is_refused(self):
        for n in (24, 100):
            self.refused(-75, ALIKE + (take(),), hours(n), LOOKS)
        for n in (4, 23, 24, 100):
            self.refused(-75, ALIKE + (take(), hours(20)), hours(n), LOOKS)
        for n in (1, 100):
            self.refused(-75, ALIKE + (take(), hours(23)), hours(n), LOOKS)

    def test_the_plan_stays_as_hours_go_by(self):
        told = run(*ALIKE, take(), plan(), legs(0), hours(20), plan(), legs(0))
        self.assertEqual(told[3:5], told[6:])
