"""Point 6: sl_when and sl_seen; when a place is seen, and by whom."""

from tests.helper import CallsCase, back, by, craft, drop, hours, legs, plan, run, seen, soonest, start, take, when

LOOKS = (plan(), by(0, 1), hours(1), soonest(), legs(0))

# Way 0: 3 legs of 20, along places 2, 7 and 10 of the 11 across; 25 from one's beginning to the next's.
EAST = (start(-5, 7, 20, 10), craft(10, 2, 100))
# Way 1: 2 legs of 30, along places 3 and 9 of the 10 across; 37 from the first one's beginning to the second's.
NORTH = (start(7, -5, 9, 30), craft(1, 3, 100))
# Craft 0 goes along place 4 of the 11 across and sees 0 to 8, craft 1 along 10 and sees 6 to 10: both a leg of 20.
BOTH = (start(0, 0, 20, 10), craft(10, 4, 100), craft(20, 4, 100))
ALIKE = (start(0, 0, 20, 10), craft(10, 4, 100), craft(10, 4, 100))
IDLE = (start(0, 0, 20, 10), craft(500, 1, 100), craft(500, 0, 100))

LARGEST = 2147483647


def edges(x, y, wide, high):
    """The corners, and a place on each edge."""
    east, north = x + wide, y + high
    return (
        (x, y), (east, y), (x, north), (east, north), (x + 1, y), (x + 1, north), (x, y + 1), (east, y + 1),
    )


def beyond(x, y, wide, high):
    """A place beyond each edge and each corner, and the farthest ones."""
    east, north = x + wide, y + high
    return (
        (x - 1, y), (x, y - 1), (x - 1, y - 1), (east + 1, y), (east, y - 1), (east + 1, y - 1),
        (x - 1, north), (x, north + 1), (x - 1, north + 1), (east + 1, north), (east, north + 1),
        (east + 1, north + 1), (x - 1, y + 1), (east + 1, y + 1), (x + 1, y - 1), (x + 1, north + 1),
        (LARGEST, y), (x, LARGEST), (-LARGEST - 1, y), (x, -LARGEST - 1), (LARGEST, -LARGEST - 1),
    )


class WhenTest(CallsCase):
    def when_at(self, before, *places):
        told = run(*before, take(), *[when(x, y) for x, y in places])
        return told[len(before) + 1:]

    def test_to_the_east_and_west(self):
        # 0, 1, 10, 11 and 20 far along the first leg.
        told = self.when_at(EAST, (-5, 9), (-4, 9), (5, 9), (6, 9), (15, 9))
        self.assertEqual(told, [[0, 0], [1, 0], [1, 0], [2, 0], [2, 0]])
        # 25, 30, 31 and 45 far, on the way back.
        told = self.when_at(EAST, (15, 14), (10, 14), (9, 14), (-5, 14))
        self.assertEqual(told, [[3, 0], [3, 0], [4, 0], [5, 0]])
        # 50, 51, 60 and 70 far, to the east again.
        told = self.when_at(EAST, (-5, 17), (-4, 17), (5, 17), (15, 17))
        self.assertEqual(told, [[5, 0], [6, 0], [6, 0], [7, 0]])

    def test_to_the_north_and_south(self):
        told = self.when_at(NORTH, (10, -5), (10, -4), (10, 25), (16, 25), (16, 24), (16, -5))
        self.assertEqual(told, [[0, 0], [1, 0], [30, 0], [37, 0], [38, 0], [67, 0]])

    def test_as_far_as_it_sees_to_either_side(self):
        # Place 4 across is the last one of the first strip, 5 the first one of the second.
        told = self.when_at(EAST, (-5, 7), (-5, 11), (-5, 12), (15, 7), (15, 11), (15, 12))
        self.assertEqual(told, [[0, 0], [0, 0], [5, 0], [2, 0], [2, 0], [3, 0]])
        told = self.when_at(NORTH, (7, -5), (13, -5), (14, -5), (7, 25), (13, 25), (14, 25))
        self.assertEqual(told, [[0, 0], [0, 0], [67, 0], [30, 0], [30, 0], [37, 0]])

    def test_by_the_first_leg_that_sees_it(self):
        # The third leg, along place 10 across, sees 8 and 9 too, which the second one has seen before.
        told = self.when_at(EAST, (15, 15), (15, 16), (-5, 15), (-5, 16), (15, 17))
        self.assertEqual(told, [[3, 0], [3, 0], [5, 0], [5, 0], [7, 0]])
        # Likewise way 1, where the second leg sees 6 too.
        self.assertEqual(self.when_at(NORTH, (13, 10), (14, 10)), [[15, 0], [52, 0]])

    def test_edges_and_corners_are_in_the_area(self):
        told = self.when_at(EAST, *edges(-5, 7, 20, 10))
        self.assertEqual(told, [[0, 0], [2, 0], [5, 0], [7, 0], [1, 0], [6, 0], [0, 0], [2, 0]])
        told = self.when_at(NORTH, *edges(7, -5, 9, 30))
        self.assertEqual(told, [[0, 0], [67, 0], [30, 0], [37, 0], [0, 0], [30, 0], [1, 0], [66, 0]])

    def test_two_craft_in_unlike_hours(self):
        # 11 far and 20 far: craft 0 is there in 2 hours, craft 1 in 1.
        self.assertEqual(self.when_at(BOTH, (11, 7), (20, 6), (20, 8)), [[1, 1]] * 3)
        # What lies farther from either than it sees is seen by the other alone.
        self.assertEqual(self.when_at(BOTH, (20, 5), (20, 9), (11, 0), (11, 10)), [[2, 0], [1, 1], [2, 0], [1, 1]])

    def test_two_craft_in_like_hours(self):
        self.assertEqual(self.when_at(ALIKE, (0, 7), (1, 6), (10, 8), (20, 7)), [[0, 0], [1, 0], [1, 0], [2, 0]])
        self.assertEqual(self.when_at(ALIKE, (20, 5), (20, 9)), [[2, 0], [2, 1]])
        # 10 far: in the first hour both, whichever is there sooner within it.
        self.assertEqual(self.when_at(BOTH, (0, 7), (1, 7), (10, 7)), [[0, 0], [1, 0], [1, 0]])

    def test_a_craft_that_is_quicker_and_ahead(self):
        before = (BOTH[0], BOTH[2], BOTH[1])
        self.assertEqual(self.when_at(before, (10, 7), (11, 7), (20, 7), (20, 9)), [[1, 0], [1, 0], [1, 0], [2, 1]])

    def test_a_craft_that_takes_no_legs_sees_nothing(self):
        self.assertEqual(self.when_at(IDLE, (0, 10), (20, 10)), [[1, 0], [1, 0]])

    def test_it_stays_as_hours_go_by(self):
        told = run(*EAST, take(), when(5, 9), when(15, 17), hours(6), when(5, 9), when(15, 17))
        self.assertEqual(told[3:5], told[6:])

    def test_a_place_beyond_goes_first(self):
        for place in beyond(-5, 7, 20, 10):
            self.refused(-22, EAST, when(*place), LOOKS)
            self.refused(-22, EAST + (take(), hours(1)), when(*place), LOOKS)
        for place in beyond(7, -5, 9, 30):
            self.refused(-22, NORTH, when(*place), LOOKS)
            self.refused(-22, NORTH + (take(), hours(1)), when(*place), LOOKS)

    def test_without_a_plan(self):
        for place in edges(-5, 7, 20, 10):
            self.refused(-6, EAST, when(*place), LOOKS)
            self.refused(-6, EAST[:1], when(*place), LOOKS)
            self.refused(-6, EAST + (take(), back()), when(*place), LOOKS)
            self.refused(-6, EAST + (take(), drop(0)), when(*place), LOOKS)


class SeenTest(CallsCase):
    def seen_by_hour(self, before, place, last):
        """How many have seen the place at each hour up to the last."""
        told = run(*before, take(), seen(*place), *[call for unused in range(last) for call in (hours(1), seen(*place))])
        return [answer[0] for answer in told[len(before) + 1::2]]

    def test_one_craft(self):
        self.assertEqual(self.seen_by_hour(EAST, (-5, 9), 7), [1, 1, 1, 1, 1, 1, 1, 1])
        self.assertEqual(self.seen_by_hour(EAST, (-4, 9), 7), [0, 1, 1, 1, 1, 1, 1, 1])
        self.assertEqual(self.seen_by_hour(EAST, (5, 9), 7), [0, 1, 1, 1, 1, 1, 1, 1])
        self.assertEqual(self.seen_by_hour(EAST, (6, 9), 7), [0, 0, 1, 1, 1, 1, 1, 1])
        self.assertEqual(self.seen_by_hour(EAST, (15, 17), 7), [0, 0, 0, 0, 0, 0, 0, 1])

    def test_a_craft_that_sees_it_twice_counts_once(self):
        self.assertEqual(self.seen_by_hour(EAST, (15, 16), 7), [0, 0, 0, 1, 1, 1, 1, 1])

    def test_the_other_way(self):
        told = self.seen_by_hour(NORTH, (14, 25), 67)
        self.assertEqual(told, [0] * 37 + [1] * 31)

    def test_two_craft(self):
        self.assertEqual(self.seen_by_hour(BOTH, (0, 7), 2), [2, 2, 2])
        self.assertEqual(self.seen_by_hour(BOTH, (10, 7), 2), [0, 2, 2])
        self.assertEqual(self.seen_by_hour(BOTH, (11, 7), 2), [0, 1, 2])
        self.assertEqual(self.seen_by_hour(BOTH, (20, 6), 2), [0, 1, 2])
        self.assertEqual(self.seen_by_hour(BOTH, (20, 5), 2), [0, 0, 1])
        self.assertEqual(self.seen_by_hour(BOTH, (20, 9), 2), [0, 1, 1])
        self.assertEqual(self.seen_by_hour(BOTH, (0, 9), 2), [1, 1, 1])

    def test_four_craft(self):
        # One leg each, along places 0 to 3 across; craft 3, half as quick, sees place 2 too.
        before = (start(0, 0, 100, 3), craft(100, 0, 9), craft(100, 0, 9), craft(100, 0, 9), craft(50, 1, 9))
        self.assertEqual(self.last(*before, take(), plan()), [2, 1, 1, 1, 1, 1])
        self.assertEqual(self.seen_by_hour(before, (0, 2), 2), [2, 2, 2])
        self.assertEqual(self.seen_by_hour(before, (50, 2), 2), [0, 2, 2])
        self.assertEqual(self.seen_by_hour(before, (100, 2), 2), [0, 1, 2])
        self.assertEqual(self.seen_by_hour(before, (100, 1), 2), [0, 1, 1])
        self.assertEqual(self.seen_by_hour(before, (100, 3), 2), [0, 0, 1])

    def test_a_craft_that_takes_no_legs_has_seen_nothing(self):
        told = run(*IDLE, take(), hours(1), seen(0, 0), seen(0, 10), seen(20, 10))
        self.assertEqual(told[5:], [[1], [1], [1]])

    def test_a_place_beyond_goes_first(self):
        for place in beyond(-5, 7, 20, 10):
            self.refused(-22, EAST, seen(*place), LOOKS)
            self.refused(-22, EAST + (take(), hours(1)), seen(*place), LOOKS)
        for place in beyond(7, -5, 9, 30):
            self.refused(-22, NORTH, seen(*place), LOOKS)
            self.refused(-22, NORTH + (take(), hours(1)), seen(*place), LOOKS)

    def test_without_a_plan(self):
        for place in edges(-5, 7, 20, 10):
            self.refused(-6, EAST, seen(*place), LOOKS)
            self.refused(-6, EAST[:1], seen(*place), LOOKS)
            self.refused(-6, EAST + (take(), hours(2), back(), back()), seen(*place), LOOKS)
            self.refused(-6, EAST + (take(), drop(0)), seen(*place), LOOKS)

    def test_edges_and_corners_are_seen_at_the_end(self):
        for before, box, last in ((EAST, (-5, 7, 20, 10), 7), (NORTH, (7, -5, 9, 30), 67)):
            told = run(*before, take(), hours(last), *[seen(*place) for place in edges(*box)])
            self.assertEqual(told[len(before) + 2:], [[1]] * 8)
