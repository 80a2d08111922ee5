import unittest

from ridebook.asks import earliest
from ridebook.errors import NoWay
from ridebook.parts import coming_of
from ridebook.trips import trip_for

GREAT = 10 ** 99 + 7

PAUSES = [0, 5, 0]
RIDES = [
    [(0, 8, 10), (1, 20, 22), (2, 50, 50)],
    [(1, 24, 24), (2, 30, 30)],
    [(1, 24, 25), (2, 36, 36)],
]


class TestTrip(unittest.TestCase):
    def test_one_part(self):
        self.assertEqual(trip_for(PAUSES, RIDES, 0, 1, 10), [(0, 0, 1)])
        self.assertEqual(trip_for(PAUSES, RIDES, 1, 2, 23), [(1, 0, 1)])

    def test_several_parts(self):
        self.assertEqual(trip_for(PAUSES, RIDES, 0, 2, 10), [(0, 0, 1), (2, 0, 1)])
        self.assertEqual(trip_for([0, 4, 0], RIDES, 0, 2, 10), [(0, 0, 1), (1, 0, 1)])

    def test_staying_on_where_no_change_can_be_had(self):
        self.assertEqual(trip_for([0, 6, 0], RIDES, 0, 2, 10), [(0, 0, 2)])

    def test_the_earliest_coming_goes_ahead_of_few_parts(self):
        rides = [
            [(0, 0, 0), (1, 1, 1)],
            [(1, 2, 2), (2, 3, 3)],
            [(2, 4, 4), (3, 5, 5)],
            [(0, 0, 0), (3, 6, 6)],
        ]
        self.assertEqual(trip_for([0] * 4, rides, 0, 3, 0), [(0, 0, 1), (1, 0, 1), (2, 0, 1)])

    def test_the_fewest_parts_of_those_that_come_then(self):
        # One way of each count of parts, and all come at 9.
        ways = [
            [[(0, 0, 0), (3, 9, 9)]],
            [[(0, 0, 0), (1, 5, 5)], [(1, 6, 6), (3, 9, 9)]],
            [[(0, 0, 0), (1, 1, 1)], [(1, 2, 2), (2, 3, 3)], [(2, 4, 4), (3, 9, 9)]],
        ]
        orders = ((0, 1, 2), (0, 2, 1), (1, 0, 2), (1, 2, 0), (2, 0, 1), (2, 1, 0))
        for order in orders:
            for left_out in range(3):
                some = [way for way in order if way >= left_out]
                rides = [ride for way in some for ride in ways[way]]
                trip = trip_for([0] * 4, rides, 0, 3, 0)
                with self.subTest(rides=rides):
                    self.assertEqual(coming_of([0] * 4, rides, 0, 3, 0, trip), 9)
                    self.assertEqual(len(trip), left_out + 1)

    def test_any_of_several_with_the_fewest_parts(self):
        rides = [[(0, 0, 0), (1, 7, 7)], [(0, 2, 2), (1, 7, 9)]]
        self.assertIn(trip_for([0, 0], rides, 0, 1, 0), [[(0, 0, 1)], [(1, 0, 1)]])
        self.assertEqual(trip_for([0, 0], rides, 0, 1, 1), [(1, 0, 1)])

    def test_a_stop_on_the_way_reached_earlier_with_more_parts(self):
        # The quick way to stop 1 has two parts, but the coach on from there leaves late enough for the slow one.
        rides = [
            [(0, 0, 0), (3, 1, 1)],
            [(3, 2, 2), (1, 3, 3)],
            [(0, 0, 0), (1, 8, 8)],
            [(1, 9, 9), (2, 12, 12)],
        ]
        self.assertEqual(trip_for([0] * 4, rides, 0, 2, 0), [(2, 0, 1), (3, 0, 1)])

    def test_a_pause_that_only_the_quick_way_keeps(self):
        rides = [
            [(0, 0, 0), (3, 1, 1)],
            [(3, 2, 2), (1, 3, 3)],
            [(0, 0, 0), (1, 8, 8)],
            [(1, 9, 9), (2, 12, 12)],
        ]
        self.assertEqual(trip_for([0, 2, 0, 0], rides, 0, 2, 0), [(0, 0, 1), (1, 0, 1), (3, 0, 1)])

    def test_a_coach_that_calls_at_one_stop_more_than_once(self):
        ride = [(0, 0, 0), (1, 3, 4), (0, 6, 7), (1, 9, 10), (2, 12, 12)]
        self.assertEqual(trip_for([0] * 3, [ride], 0, 1, 0), [(0, 0, 1)])
        self.assertEqual(trip_for([0] * 3, [ride], 0, 1, 1), [(0, 2, 3)])
        self.assertEqual(coming_of([0] * 3, [ride], 0, 2, 0, trip_for([0] * 3, [ride], 0, 2, 0)), 12)
        self.assertEqual(len(trip_for([0] * 3, [ride], 0, 2, 0)), 1)

    def test_great_times(self):
        rides = [[(0, -GREAT, -GREAT), (1, 0, 0)], [(1, GREAT, GREAT), (2, GREAT + 1, GREAT + 1)]]
        trip = [(0, 0, 1), (1, 0, 1)]
        self.assertEqual(trip_for([0, GREAT, 0], rides, 0, 2, -GREAT), trip)
        with self.assertRaises(NoWay):
            trip_for([0, GREAT + 1, 0], rides, 0, 2, -GREAT)

    def test_as_many_parts_as_stops_allow(self):
        rides = [[(k, 10 * k, 10 * k), (k + 1, 10 * k + 5, 10 * k + 5)] for k in range(39)]
        rides.reverse()
        self.assertEqual(trip_for([5] * 40, rides, 0, 39, 0), [(38 - k, 0, 1) for k in range(39)])

    def test_many_calls(self):
        # The two hundredth call is the goal, and every stop is called at five times.
        rides = [[(k % 40, 3 * k, 3 * k + 1) for k in range(200)]]
        trip = trip_for([1] * 40, rides, 0, 39, 100)
        wanted = earliest([1] * 40, rides, 0, 39, 100)
        self.assertEqual(coming_of([1] * 40, rides, 0, 39, 100, trip), wanted)
        self.assertEqual((wanted, len(trip)), (237, 1))

    def test_kinds(self):
        trip = trip_for(PAUSES, RIDES, 0, 2, 10)
        self.assertEqual(type(trip), list)
        self.assertEqual([type(part) for part in trip], [tuple, tuple])


class TestToItself(unittest.TestCase):
    def test_the_empty_list(self):
        rides = [[(0, 0, 0), (1, 3, 3), (0, 5, 5)], [(0, 0, 0), (0, 1, 1)]]
        for stop in (0, 1):
            for time in (0, -5, 9, GREAT, -GREAT):
                with self.subTest(stop=stop, time=time):
                    self.assertEqual(trip_for([0, 4], rides, stop, stop, time), [])

    def test_without_rides(self):
        self.assertEqual(trip_for([0], [], 0, 0, 3), [])


class TestNoWay(unittest.TestCase):
    def refused(self, pauses, rides, start, goal, time):
        with self.assertRaises(NoWay):
            trip_for(pauses, rides, start, goal, time)

    def test_no_rides(self):
        self.refused([0, 0], [], 0, 1, 0)

    def test_too_late_for_every_ride(self):
        self.refused(PAUSES, RIDES, 0, 2, 11)
        self.refused(PAUSES, RIDES, 1, 2, 26)

    def test_the_wrong_way_round(self):
        self.refused(PAUSES, RIDES, 1, 0, 0)
        self.refused(PAUSES, RIDES, 2, 0, -GREAT)

    def test_a_change_within_the_pause(self):
        rides = [[(0, 0, 0), (1, 10, 10)], [(1, 14, 14), (2, 20, 20)]]
        self.refused([0, 5, 0], rides, 0, 2, 0)
        self.assertEqual(len(trip_for([0, 4, 0], rides, 0, 2, 0)), 2)

    def test_a_stop_without_calls(self):
        self.refused([0] * 4, RIDES, 0, 3, 0)
        self.refused([0] * 4, RIDES, 3, 0, 0)


if __name__ == "__main__":
    unittest.main()
