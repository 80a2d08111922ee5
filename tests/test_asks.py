import unittest

from ridebook.asks import choices, earliest, fewest, latest
from ridebook.errors import NoWay
from ridebook.rides import late_by, turned

GREAT = 10 ** 99 + 7

PAUSES = [3, 5, 2]
RIDES = [
    [(0, 8, 10), (1, 20, 22), (2, 50, 50)],
    [(1, 24, 24), (2, 30, 30)],
    [(1, 24, 25), (2, 36, 36)],
    [(0, 12, 12), (2, 55, 60)],
    [(2, 41, 42), (0, 58, 58)],
]
TIMES = (0, 17, -17, GREAT, -GREAT)


class TestEarliest(unittest.TestCase):
    def test_one_part(self):
        self.assertEqual(earliest(PAUSES, RIDES, 0, 1, 10), 20)
        self.assertEqual(earliest(PAUSES, RIDES, 1, 2, 24), 30)
        self.assertEqual(earliest(PAUSES, RIDES, 1, 2, 25), 36)

    def test_several_parts(self):
        self.assertEqual(earliest(PAUSES, RIDES, 0, 2, 0), 36)
        self.assertEqual(earliest(PAUSES, RIDES, 1, 0, 25), 58)

    def test_time_against_the_leaving(self):
        for time, wanted in ((-GREAT, 36), (8, 36), (10, 36), (11, 55), (12, 55), (13, None), (GREAT, None)):
            with self.subTest(time=time):
                self.assertEqual(earliest(PAUSES, RIDES, 0, 2, time), wanted)

    def test_a_change_within_the_pause_at_it_and_behind_it(self):
        for pause, wanted in ((4, 30), (5, 36), (6, 50)):
            with self.subTest(pause=pause):
                self.assertEqual(earliest([3, pause, 2], RIDES, 0, 2, 0), wanted)

    def test_none(self):
        self.assertIsNone(earliest([0, 0], [], 0, 1, 0))
        self.assertIsNone(earliest(PAUSES, RIDES, 2, 1, 0))
        self.assertIsNone(earliest(PAUSES, RIDES, 1, 2, 26))

    def test_from_a_stop_to_itself(self):
        for stop in range(3):
            for time in TIMES:
                with self.subTest(stop=stop, time=time):
                    self.assertEqual(earliest(PAUSES, RIDES, stop, stop, time), time)
        self.assertEqual(earliest([4], [], 0, 0, -3), -3)

    def test_a_coming_at_nought_is_one(self):
        self.assertEqual(earliest([0, 0], [[(0, -5, -5), (1, 0, 0)]], 0, 1, -5), 0)

    def test_great_times(self):
        rides = [[(0, -GREAT, -GREAT), (1, 0, 0)], [(1, GREAT, GREAT), (2, GREAT + 1, GREAT + 1)]]
        self.assertEqual(earliest([0, GREAT, 0], rides, 0, 2, -GREAT), GREAT + 1)
        self.assertIsNone(earliest([0, GREAT + 1, 0], rides, 0, 2, -GREAT))

    def test_late_rides(self):
        self.assertEqual(earliest(PAUSES, late_by(RIDES, 1, 0, 1), 0, 2, 0), 31)
        self.assertEqual(earliest(PAUSES, late_by(RIDES, 0, 0, 1), 0, 2, 0), 51)


class TestLatest(unittest.TestCase):
    def test_one_part(self):
        self.assertEqual(latest(PAUSES, RIDES, 0, 1, 20), 10)
        self.assertEqual(latest(PAUSES, RIDES, 1, 2, 36), 25)
        self.assertEqual(latest(PAUSES, RIDES, 1, 2, 35), 24)

    def test_time_against_the_coming(self):
        for end, wanted in ((-GREAT, None), (35, None), (36, 10), (54, 10), (55, 12), (60, 12), (GREAT, 12)):
            with self.subTest(end=end):
                self.assertEqual(latest(PAUSES, RIDES, 0, 2, end), wanted)

    def test_a_change_within_the_pause_at_it_and_behind_it(self):
        for pause, wanted in ((4, 10), (5, None)):
            with self.subTest(pause=pause):
                self.assertEqual(latest([3, pause, 2], RIDES, 0, 2, 30), wanted)

    def test_the_latest_leaving_of_several(self):
        rides = [[(0, k, k), (1, 20 - k, 20 - k)] for k in (3, 9, 1, 7)]
        self.assertEqual(latest([0, 0], rides, 0, 1, 20), 9)
        self.assertEqual(latest([0, 0], rides, 0, 1, 10), None)
        self.assertEqual(latest([0, 0], rides, 0, 1, 11), 9)

    def test_none(self):
        self.assertIsNone(latest([0, 0], [], 0, 1, 0))
        self.assertIsNone(latest(PAUSES, RIDES, 2, 1, GREAT))

    def test_from_a_stop_to_itself(self):
        for stop in range(3):
            for time in TIMES:
                with self.subTest(stop=stop, time=time):
                    self.assertEqual(latest(PAUSES, RIDES, stop, stop, time), time)
        self.assertEqual(latest([4], [], 0, 0, -3), -3)

    def test_a_start_at_nought_is_one(self):
        self.assertEqual(latest([0, 0], [[(0, 0, 0), (1, 5, 5)]], 0, 1, 5), 0)

    def test_great_times(self):
        rides = [[(0, -GREAT, -GREAT), (1, 0, 0)], [(1, GREAT, GREAT), (2, GREAT + 1, GREAT + 1)]]
        self.assertEqual(latest([0, GREAT, 0], rides, 0, 2, GREAT + 1), -GREAT)
        self.assertIsNone(latest([0, GREAT, 0], rides, 0, 2, GREAT))
        self.assertIsNone(latest([0, GREAT + 1, 0], rides, 0, 2, GREAT + 1))

    def test_turned_sign_of_the_earliest_on_the_turned_rides(self):
        for start in range(3):
            for goal in range(3):
                for end in range(0, 65):
                    back = earliest(PAUSES, turned(RIDES), goal, start, -end)
                    with self.subTest(start=start, goal=goal, end=end):
                        wanted = None if back is None else -back
                        self.assertEqual(latest(PAUSES, RIDES, start, goal, end), wanted)

    def test_the_next_time_is_too_late(self):
        for end in (36, 54, 55, 99):
            start = latest(PAUSES, RIDES, 0, 2, end)
            self.assertLessEqual(earliest(PAUSES, RIDES, 0, 2, start), end)
            behind = earliest(PAUSES, RIDES, 0, 2, start + 1)
            self.assertTrue(behind is None or behind > end)


class TestFewest(unittest.TestCase):
    def test_few_parts_that_come_too_late(self):
        # Staying on comes at 50, the change at 36.
        for end, wanted in ((35, None), (36, 2), (49, 2), (50, 1), (51, 1), (GREAT, 1)):
            with self.subTest(end=end):
                self.assertEqual(fewest(PAUSES, RIDES, 0, 2, 0, end), wanted)

    def test_each_count_of_parts(self):
        rides = [
            [(0, 0, 0), (1, 1, 1), (4, 90, 90)],
            [(1, 2, 2), (2, 3, 3), (4, 80, 80)],
            [(2, 4, 4), (3, 5, 5), (4, 70, 70)],
            [(3, 6, 6), (4, 60, 60)],
        ]
        for end, wanted in ((59, None), (60, 4), (69, 4), (70, 3), (79, 3), (80, 2), (89, 2), (90, 1)):
            with self.subTest(end=end):
                self.assertEqual(fewest([1] * 5, rides, 0, 4, 0, end), wanted)

    def test_time_against_the_leaving(self):
        self.assertEqual(fewest(PAUSES, RIDES, 0, 2, 10, 40), 2)
        self.assertIsNone(fewest(PAUSES, RIDES, 0, 2, 11, 40))
        self.assertEqual(fewest(PAUSES, RIDES, 0, 2, 11, 55), 1)

    def test_from_a_stop_to_itself(self):
        for stop in range(3):
            for time in TIMES:
                for more in (0, 1, GREAT):
                    with self.subTest(stop=stop, time=time, more=more):
                        self.assertEqual(fewest(PAUSES, RIDES, stop, stop, time, time + more), 0)

    def test_an_end_ahead_of_the_time(self):
        for goal in range(3):
            for end in (-1, -GREAT):
                with self.subTest(goal=goal, end=end):
                    self.assertIsNone(fewest(PAUSES, RIDES, 0, goal, 0, end))
        self.assertIsNone(fewest([0], [], 0, 0, 5, 4))

    def test_none(self):
        self.assertIsNone(fewest([0, 0], [], 0, 1, 0, 9))
        self.assertIsNone(fewest(PAUSES, RIDES, 2, 1, 0, GREAT))
        self.assertIsNone(fewest(PAUSES, RIDES, 0, 2, 13, GREAT))

    def test_great_times(self):
        rides = [[(0, -GREAT, -GREAT), (1, 0, 0)], [(1, GREAT, GREAT), (2, GREAT + 1, GREAT + 1)]]
        self.assertEqual(fewest([0, GREAT, 0], rides, 0, 2, -GREAT, GREAT + 1), 2)
        self.assertIsNone(fewest([0, GREAT, 0], rides, 0, 2, -GREAT, GREAT))

    def test_comings_at_nought_and_below(self):
        rides = [[(0, -9, -9), (1, -5, -5), (2, 0, 0)]]
        self.assertEqual(fewest([0] * 3, rides, 0, 2, -9, 0), 1)
        self.assertIsNone(fewest([0] * 3, rides, 0, 2, -9, -1))
        self.assertEqual(fewest([0] * 3, rides, 0, 1, -9, -5), 1)


class TestChoices(unittest.TestCase):
    # From stop 0 to stop 1: leavings and comings out of order, some bettered by others.
    RIDES = [
        [(0, 20, 20), (1, 33, 33)],
        [(0, 1, 5), (1, 14, 14)],
        [(0, 2, 2), (1, 14, 14)],
        [(0, 8, 8), (1, 40, 40)],
        [(0, 12, 12), (1, 19, 30)],
        [(0, 12, 12), (1, 25, 25)],
        [(0, 11, 11), (1, 19, 19)],
    ]
    WANTED = [(5, 14), (12, 19), (20, 33)]

    def told(self, first, last):
        return choices([0, 0], self.RIDES, 0, 1, first, last)

    def test_all(self):
        for last in (20, 21, 33, 99, GREAT):
            with self.subTest(last=last):
                self.assertEqual(self.told(0, last), self.WANTED)
        self.assertEqual(self.told(-GREAT, GREAT), self.WANTED)

    def test_starts_and_comings_rise(self):
        told = self.told(-GREAT, GREAT)
        for ahead, behind in zip(told, told[1:]):
            self.assertLess(ahead[0], behind[0])
            self.assertLess(ahead[1], behind[1])

    def test_no_start_ahead_of_the_first_time(self):
        for first, left in ((5, 0), (6, 1), (12, 1), (13, 2), (20, 2), (21, 3), (GREAT, 3)):
            with self.subTest(first=first):
                self.assertEqual(self.told(first, GREAT), self.WANTED[left:])

    def test_no_start_behind_the_last_time(self):
        for last, count in ((4, 0), (5, 1), (11, 1), (12, 2), (19, 2), (20, 3)):
            with self.subTest(last=last):
                self.assertEqual(self.told(0, last), self.WANTED[:count])

    def test_the_first_and_the_last_time_alike(self):
        for time, wanted in ((4, []), (5, [(5, 14)]), (6, []), (12, [(12, 19)]), (20, [(20, 33)]), (21, [])):
            with self.subTest(time=time):
                self.assertEqual(self.told(time, time), wanted)

    def test_the_last_time_ahead_of_the_first(self):
        for first, last in ((5, 4), (0, -1), (12, 5), (GREAT, -GREAT), (20, 12)):
            with self.subTest(first=first, last=last):
                self.assertEqual(self.told(first, last), [])

    def test_the_earliest_coming_from_each_time_between(self):
        told = self.told(0, 30)
        for time in range(0, 31):
            comings = [coming for start, coming in told if start >= time]
            with self.subTest(time=time):
                wanted = comings[0] if comings else None
                self.assertEqual(earliest([0, 0], self.RIDES, 0, 1, time), wanted)

    def test_each_start_is_the_latest_by_its_coming(self):
        for start, coming in self.told(0, 30):
            with self.subTest(start=start):
                self.assertEqual(latest([0, 0], self.RIDES, 0, 1, coming), start)

    def test_over_changes(self):
        self.assertEqual(choices(PAUSES, RIDES, 0, 2, 0, 99), [(10, 36), (12, 55)])
        self.assertEqual(choices([3, 6, 2], RIDES, 0, 2, 0, 99), [(10, 50), (12, 55)])
        self.assertEqual(choices([3, 4, 2], RIDES, 0, 2, 0, 99), [(10, 30), (12, 55)])

    def test_a_trip_over_the_stops_again(self):
        # The coach comes by stop 0 twice ahead of stop 1.
        rides = [[(0, 0, 1), (2, 2, 2), (0, 4, 5), (1, 7, 7)]]
        self.assertEqual(choices([0, 0, 0], rides, 0, 1, 0, 9), [(5, 7)])
        self.assertEqual(choices([0, 0, 0], rides, 0, 1, 0, 4), [])

    def test_none(self):
        self.assertEqual(choices([0, 0], [], 0, 1, 0, 9), [])
        self.assertEqual(choices([0, 0], self.RIDES, 1, 0, 0, GREAT), [])

    def test_nought_and_below(self):
        rides = [[(0, -4, -4), (1, -2, -2)], [(0, -1, 0), (1, 1, 1)], [(0, -3, -3), (1, 0, 0)]]
        self.assertEqual(choices([0, 0], rides, 0, 1, -9, 9), [(-4, -2), (-3, 0), (0, 1)])
        self.assertEqual(choices([0, 0], rides, 0, 1, -3, 0), [(-3, 0), (0, 1)])
        self.assertEqual(choices([0, 0], rides, 0, 1, -4, -1), [(-4, -2), (-3, 0)])

    def test_great_times_far_apart(self):
        rides = [[(0, -GREAT, -GREAT), (1, 0, 0)], [(0, GREAT, GREAT), (1, GREAT + 1, GREAT + 1)]]
        wanted = [(-GREAT, 0), (GREAT, GREAT + 1)]
        self.assertEqual(choices([0, 0], rides, 0, 1, -GREAT, GREAT), wanted)
        self.assertEqual(choices([0, 0], rides, 0, 1, -GREAT, GREAT - 1), wanted[:1])
        self.assertEqual(choices([0, 0], rides, 0, 1, 1 - GREAT, GREAT), wanted[1:])

    def test_both_stops_the_same(self):
        for stop in range(3):
            for first, last in ((0, 9), (9, 0), (0, 0)):
                with self.subTest(stop=stop, first=first, last=last), self.assertRaises(NoWay):
                    choices(PAUSES, RIDES, stop, stop, first, last)
        with self.assertRaises(NoWay):
            choices([0], [], 0, 0, 0, 9)

    def test_kinds(self):
        told = self.told(0, 99)
        self.assertEqual(type(told), list)
        self.assertEqual({type(choice) for choice in told}, {tuple})


class TestManyCalls(unittest.TestCase):
    def test_a_hundred_choices(self):
        rides = [[(0, 3 * k, 3 * k), (1, 3 * k + 2, 3 * k + 2)] for k in range(100)]
        wanted = [(3 * k, 3 * k + 2) for k in range(100)]
        self.assertEqual(choices([0, 0], rides, 0, 1, 0, GREAT), wanted)

    def test_forty_stops_and_somewhat_more_than_two_hundred_calls(self):
        # One coach from each stop to the next, three times over: each time is a choice of its own.
        rides = [
            [(stop, base + 2 * stop, base + 2 * stop), (stop + 1, base + 2 * stop + 1, base + 2 * stop + 1)]
            for base in (0, 100, 200)
            for stop in range(39)
        ]
        self.assertEqual(choices([1] * 40, rides, 0, 39, 0, GREAT), [(0, 77), (100, 177), (200, 277)])
        self.assertEqual(choices([2] * 40, rides, 0, 39, 0, GREAT), [])
        self.assertEqual(fewest([1] * 40, rides, 0, 39, 0, 77), 39)
        self.assertIsNone(fewest([1] * 40, rides, 0, 39, 0, 76))
        self.assertEqual(earliest([1] * 40, rides, 0, 39, 101), 277)
        self.assertEqual(latest([1] * 40, rides, 0, 39, 276), 100)


if __name__ == "__main__":
    unittest.main()
