import itertools
import unittest

from ridebook.parts import coming_of
from ridebook.rides import late_by, turned

GREAT = 10 ** 99 + 7

# The pauses are all unlike, so that one stop's pause can't stand for another's.
PAUSES = [7, 5, 0, 2]
RIDES = [
    [(0, 8, 10), (1, 20, 22), (2, 30, 33)],
    [(1, 24, 24), (3, 40, 41)],
    [(1, 24, 25), (3, 36, 36)],
    [(1, 20, 26), (3, 35, 35)],
    [(2, 30, 30), (3, 44, 50), (0, 60, 60)],
    [(0, 1, 10), (1, 12, 12), (0, 15, 21), (1, 24, 30), (0, 33, 33)],
    [(2, 5, 9)],
]


def by_the_words(pauses, rides, start, goal, time, parts):
    """Point 6 told anew, sentence by sentence, over lists of leavings and comings."""
    for ride, on, off in parts:
        if ride not in range(len(rides)):
            return None
        calls = range(len(rides[ride]))
        if on not in calls or off not in calls or not on < off:
            return None
    if not parts:
        return time if start == goal else None
    leavings = [rides[ride][on] for ride, on, off in parts]
    comings = [rides[ride][off] for ride, on, off in parts]
    if leavings[0][0] != start or leavings[0][2] < time:
        return None
    for ahead, further in zip(comings, leavings[1:]):
        if ahead[0] != further[0] or further[2] - ahead[1] < pauses[ahead[0]]:
            return None
    return comings[-1][1] if comings[-1][0] == goal else None


class TestNoPart(unittest.TestCase):
    def test_from_a_stop_to_itself(self):
        for stop in range(4):
            for time in (0, 17, -17, GREAT, -GREAT):
                with self.subTest(stop=stop, time=time):
                    self.assertEqual(coming_of(PAUSES, RIDES, stop, stop, time, []), time)

    def test_from_a_stop_to_another(self):
        for start, goal in itertools.permutations(range(4), 2):
            with self.subTest(start=start, goal=goal):
                self.assertIsNone(coming_of(PAUSES, RIDES, start, goal, 0, []))

    def test_without_rides(self):
        self.assertEqual(coming_of([0], [], 0, 0, 3, []), 3)
        self.assertIsNone(coming_of([0, 0], [], 0, 1, 3, []))
        self.assertIsNone(coming_of([0], [], 0, 0, 3, [(0, 0, 1)]))


class TestOnePart(unittest.TestCase):
    def test_comes_when_the_coach_comes(self):
        self.assertEqual(coming_of(PAUSES, RIDES, 0, 1, 0, [(0, 0, 1)]), 20)
        self.assertEqual(coming_of(PAUSES, RIDES, 1, 2, 0, [(0, 1, 2)]), 30)
        self.assertEqual(coming_of(PAUSES, RIDES, 2, 3, 0, [(4, 0, 1)]), 44)

    def test_calls_between_do_not_matter(self):
        self.assertEqual(coming_of(PAUSES, RIDES, 0, 2, 0, [(0, 0, 2)]), 30)
        self.assertEqual(coming_of([99] * 4, RIDES, 0, 2, 0, [(0, 0, 2)]), 30)

    def test_time_against_the_leaving(self):
        # The coach is there from 8 to 10, and one gets on when it leaves.
        for time in (-GREAT, -1, 0, 7, 8, 9, 10):
            with self.subTest(time=time):
                self.assertEqual(coming_of(PAUSES, RIDES, 0, 1, time, [(0, 0, 1)]), 20)
        for time in (11, 12, 20, GREAT):
            with self.subTest(time=time):
                self.assertIsNone(coming_of(PAUSES, RIDES, 0, 1, time, [(0, 0, 1)]))

    def test_times_below_nought_and_great_ones(self):
        rides = [[(0, -GREAT - 1, -GREAT), (1, -5, -3), (0, GREAT, GREAT)]]
        self.assertEqual(coming_of([0, 0], rides, 0, 1, -GREAT, [(0, 0, 1)]), -5)
        self.assertIsNone(coming_of([0, 0], rides, 0, 1, 1 - GREAT, [(0, 0, 1)]))
        self.assertEqual(coming_of([0, 0], rides, 1, 0, -3, [(0, 1, 2)]), GREAT)
        self.assertIsNone(coming_of([0, 0], rides, 1, 0, -2, [(0, 1, 2)]))

    def test_on_at_another_stop(self):
        for start in (1, 2, 3):
            with self.subTest(start=start):
                self.assertIsNone(coming_of(PAUSES, RIDES, start, 2, 0, [(0, 0, 2)]))

    def test_ends_elsewhere_than_at_the_goal(self):
        for goal in (0, 1, 3):
            with self.subTest(goal=goal):
                self.assertIsNone(coming_of(PAUSES, RIDES, 0, goal, 0, [(0, 0, 2)]))

    def test_off_no_later_than_on(self):
        self.assertIsNone(coming_of(PAUSES, RIDES, 0, 0, 0, [(0, 0, 0)]))
        self.assertIsNone(coming_of(PAUSES, RIDES, 1, 0, 0, [(0, 1, 0)]))
        self.assertIsNone(coming_of(PAUSES, RIDES, 2, 0, 0, [(0, 2, 0)]))
        self.assertIsNone(coming_of(PAUSES, RIDES, 0, 0, 0, [(5, 2, 0)]))
        self.assertIsNone(coming_of(PAUSES, RIDES, 2, 2, 0, [(6, 0, 0)]))

    def test_no_such_ride(self):
        # -7 and -3 would be rides 0 and 4 if one counted from the end.
        for ride in (7, 8, GREAT, -1, -3, -7, -8, -GREAT):
            for start, goal, on, off in ((0, 1, 0, 1), (2, 3, 0, 1)):
                with self.subTest(ride=ride, on=on):
                    self.assertIsNone(coming_of(PAUSES, RIDES, start, goal, -GREAT, [(ride, on, off)]))

    def test_no_such_call(self):
        for off in (3, 4, GREAT, -1, -2, -3, -GREAT):
            with self.subTest(off=off):
                for goal in range(4):
                    self.assertIsNone(coming_of(PAUSES, RIDES, 0, goal, 0, [(0, 0, off)]))
        for on in (-1, -2, -3, -4, -GREAT, 3, GREAT):
            with self.subTest(on=on):
                for start in range(4):
                    self.assertIsNone(coming_of(PAUSES, RIDES, start, 2, 0, [(0, on, 2)]))
        self.assertIsNone(coming_of(PAUSES, RIDES, 0, 2, 0, [(0, -3, -1)]))

    def test_round_trip_on_one_ride(self):
        self.assertEqual(coming_of(PAUSES, RIDES, 0, 0, 10, [(5, 0, 2)]), 15)
        self.assertEqual(coming_of(PAUSES, RIDES, 0, 0, 10, [(5, 0, 4)]), 33)
        self.assertEqual(coming_of(PAUSES, RIDES, 0, 0, 11, [(5, 2, 4)]), 33)
        self.assertIsNone(coming_of(PAUSES, RIDES, 0, 0, 11, [(5, 0, 2)]))
        self.assertEqual(coming_of(PAUSES, RIDES, 0, 0, 11, []), 11)

    def test_a_stop_called_at_more_than_once(self):
        self.assertEqual(coming_of(PAUSES, RIDES, 0, 1, 10, [(5, 0, 1)]), 12)
        self.assertEqual(coming_of(PAUSES, RIDES, 0, 1, 10, [(5, 0, 3)]), 24)
        self.assertEqual(coming_of(PAUSES, RIDES, 0, 1, 10, [(5, 2, 3)]), 24)


class TestSeveralParts(unittest.TestCase):
    def test_change_within_the_pause(self):
        # Come at 20, the pause is 5: the coach that leaves at 24 can't be had.
        self.assertIsNone(coming_of(PAUSES, RIDES, 0, 3, 0, [(0, 0, 1), (1, 0, 1)]))

    def test_change_just_at_the_pause(self):
        self.assertEqual(coming_of(PAUSES, RIDES, 0, 3, 0, [(0, 0, 1), (2, 0, 1)]), 36)

    def test_change_behind_the_pause(self):
        self.assertEqual(coming_of(PAUSES, RIDES, 0, 3, 0, [(0, 0, 1), (3, 0, 1)]), 35)

    def test_pause_of_the_stop_of_the_change_counts(self):
        parts = [(0, 0, 1), (2, 0, 1)]
        self.assertEqual(coming_of([99, 5, 99, 99], RIDES, 0, 3, 10, parts), 36)
        self.assertIsNone(coming_of([0, 6, 0, 0], RIDES, 0, 3, 10, parts))

    def test_pause_of_nought(self):
        # Come to stop 2 at 30, and the next coach leaves at 30.
        self.assertEqual(coming_of(PAUSES, RIDES, 0, 3, 0, [(0, 0, 2), (4, 0, 1)]), 44)
        self.assertIsNone(coming_of([7, 5, 1, 2], RIDES, 0, 3, 0, [(0, 0, 2), (4, 0, 1)]))

    def test_leaving_earlier_than_one_came(self):
        rides = [[(0, 0, 0), (1, 10, 10)], [(1, 9, 9), (2, 20, 20)]]
        self.assertIsNone(coming_of([0, 0, 0], rides, 0, 2, 0, [(0, 0, 1), (1, 0, 1)]))

    def test_no_pause_ahead_of_the_first_part_nor_behind_the_last(self):
        self.assertEqual(coming_of([GREAT] * 4, RIDES, 0, 1, 10, [(0, 0, 1)]), 20)

    def test_change_to_the_same_ride(self):
        # The coach stays at stop 1 from 20 to 22.
        parts = [(0, 0, 1), (0, 1, 2)]
        self.assertIsNone(coming_of([0, 3, 0, 0], RIDES, 0, 2, 0, parts))
        self.assertEqual(coming_of([0, 2, 0, 0], RIDES, 0, 2, 0, parts), 30)
        self.assertEqual(coming_of([0, 0, 0, 0], RIDES, 0, 2, 0, parts), 30)

    def test_change_to_the_same_ride_at_a_later_call(self):
        # Off at stop 1 at 12, on again there when the same coach leaves at 30.
        parts = [(5, 0, 1), (5, 3, 4)]
        self.assertEqual(coming_of([0, 18, 0, 0], RIDES, 0, 0, 0, parts), 33)
        self.assertIsNone(coming_of([0, 19, 0, 0], RIDES, 0, 0, 0, parts))

    def test_change_to_an_earlier_call_of_the_same_ride(self):
        self.assertIsNone(coming_of([0] * 4, RIDES, 0, 0, 0, [(5, 0, 3), (5, 1, 2)]))

    def test_further_part_on_at_another_stop(self):
        self.assertIsNone(coming_of([0] * 4, RIDES, 0, 3, 0, [(0, 0, 2), (3, 0, 1)]))
        self.assertIsNone(coming_of([0] * 4, RIDES, 0, 0, 0, [(0, 0, 1), (4, 1, 2)]))

    def test_wrong_part_behind_right_ones(self):
        ahead = [(0, 0, 2)]
        for part in ((4, 0, 0), (4, 0, 3), (4, 0, -1), (7, 0, 1), (-3, 0, 1), (GREAT, -GREAT, GREAT)):
            with self.subTest(part=part):
                for goal in range(4):
                    self.assertIsNone(coming_of(PAUSES, RIDES, 0, goal, 0, ahead + [part]))

    def test_wrong_part_ahead_of_right_ones(self):
        for part in ((0, 2, 2), (0, 0, 3), (9, 0, 1), (-7, 0, 2)):
            with self.subTest(part=part):
                self.assertIsNone(coming_of(PAUSES, RIDES, 0, 3, 0, [part, (4, 0, 1)]))

    def test_ends_elsewhere_than_at_the_goal(self):
        parts = [(0, 0, 2), (4, 0, 1)]
        for goal in (0, 1, 2):
            with self.subTest(goal=goal):
                self.assertIsNone(coming_of(PAUSES, RIDES, 0, goal, 0, parts))

    def test_time_holds_for_the_first_part(self):
        parts = [(0, 0, 2), (4, 0, 1)]
        self.assertEqual(coming_of(PAUSES, RIDES, 0, 3, 10, parts), 44)
        self.assertIsNone(coming_of(PAUSES, RIDES, 0, 3, 11, parts))

    def test_round_trip_of_several_parts(self):
        self.assertEqual(coming_of(PAUSES, RIDES, 0, 0, 0, [(0, 0, 2), (4, 0, 2)]), 60)
        self.assertEqual(coming_of(PAUSES, RIDES, 0, 0, 10, [(0, 0, 1), (2, 0, 1), (4, 1, 2)]), 60)
        self.assertIsNone(coming_of(PAUSES, RIDES, 0, 0, 11, [(0, 0, 2), (4, 0, 2)]))

    def test_trip_over_the_stop_where_it_began(self):
        parts = [(5, 0, 2), (5, 2, 3)]
        self.assertIsNone(coming_of(PAUSES, RIDES, 0, 1, 0, parts))
        self.assertEqual(coming_of([6, 5, 0, 2], RIDES, 0, 1, 0, parts), 24)

    def test_great_pause(self):
        rides = [[(0, -GREAT, -GREAT), (1, 1 - GREAT, 1 - GREAT)], [(1, 0, 1), (0, GREAT, GREAT)]]
        parts = [(0, 0, 1), (1, 0, 1)]
        self.assertEqual(coming_of([0, GREAT], rides, 0, 0, -GREAT, parts), GREAT)
        self.assertIsNone(coming_of([0, GREAT + 1], rides, 0, 0, -GREAT, parts))

    def test_as_many_parts_as_there_may_be_calls(self):
        rides = [[(k % 40, k, k) for k in range(200)]]
        parts = [(0, k, k + 1) for k in range(199)]
        self.assertEqual(coming_of([0] * 40, rides, 0, 39, 0, parts), 199)
        self.assertIsNone(coming_of([0] * 39 + [1], rides, 0, 39, 0, parts))

    def test_late_rides_miss_and_make_changes(self):
        missed = [(0, 0, 1), (2, 0, 1)]
        self.assertIsNone(coming_of(PAUSES, late_by(RIDES, 0, 0, 1), 0, 3, 0, missed))
        made = [(0, 0, 1), (1, 0, 1)]
        self.assertEqual(coming_of(PAUSES, late_by(RIDES, 1, 0, 1), 0, 3, 0, made), 41)


class TestAgainstTheWords(unittest.TestCase):
    def each_question(self):
        rides = [
            [(0, 0, 1), (1, 2, 3), (0, 5, 6)],
            [(1, 2, 4), (0, 5, 6), (1, 8, 8)],
            [(0, 3, 3)],
        ]
        some = [(ride, on, off) for ride in (-1, 0, 1, 2, 3) for on in (-1, 0, 1, 2) for off in (-1, 0, 1, 2, 3)]
        lists = [[]] + [[part] for part in some] + [list(pair) for pair in itertools.product(some, repeat=2)]
        for pauses in ([0, 0], [0, 1], [1, 2], [0, 3]):
            for start, goal, time in itertools.product((0, 1), (0, 1), (1, 4)):
                for parts in lists:
                    yield pauses, rides, start, goal, time, parts

    def test_every_list_of_at_most_two_parts(self):
        lengths = set()
        for question in self.each_question():
            answer = coming_of(*question)
            if answer != by_the_words(*question):
                self.fail(f"{question}: {answer}")
            if answer is not None:
                lengths.add(len(question[5]))
        self.assertEqual(lengths, {0, 1, 2})

    def test_a_trip_turned_round_is_a_trip(self):
        lengths = set()
        for pauses, rides, start, goal, time, parts in self.each_question():
            coming = coming_of(pauses, rides, start, goal, time, parts)
            if coming is None or not parts:
                continue
            back = [
                (ride, len(rides[ride]) - 1 - off, len(rides[ride]) - 1 - on)
                for ride, on, off in reversed(parts)
            ]
            leaving = rides[parts[0][0]][parts[0][1]][2]
            self.assertEqual(coming_of(pauses, turned(rides), goal, start, -coming, back), -leaving)
            self.assertIsNone(coming_of(pauses, turned(rides), goal, start, 1 - coming, back))
            lengths.add(len(parts))
        self.assertEqual(lengths, {1, 2})


if __name__ == "__main__":
    unittest.main()
