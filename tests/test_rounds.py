import unittest

from ridebook.rounds import rounds

GREAT = 10 ** 99 + 7

# Off at stop 1 at 10; the pause there is 5.
TO_ONE = [(0, 0, 0), (1, 10, 10)]


class TestFirstRound(unittest.TestCase):
    def test_no_rides(self):
        self.assertEqual(rounds([0, 4, 0], [], 1, 7), [[None, 7, None]])
        self.assertEqual(rounds([3], [], 0, -7), [[-7]])

    def test_a_coming_at_the_first_stop_alone(self):
        rides = [[(0, 0, 0), (1, 1, 1), (2, 2, 2)]]
        for start in range(3):
            for time in (0, 1, 5, -GREAT, GREAT):
                with self.subTest(start=start, time=time):
                    wanted = [None] * 3
                    wanted[start] = time
                    self.assertEqual(rounds([1, 2, 3], rides, start, time)[0], wanted)

    def test_a_time_that_every_ride_misses(self):
        rides = [TO_ONE, [(0, 3, 5), (2, 9, 9)]]
        self.assertEqual(rounds([0, 0, 0], rides, 0, 6), [[6, None, None]])
        self.assertEqual(rounds([0, 0, 0], rides, 0, GREAT), [[GREAT, None, None]])
        self.assertEqual(rounds([0, 0, 0], rides, 0, 5), [[5, None, None], [5, None, 9]])

    def test_a_stop_that_no_coach_leaves(self):
        self.assertEqual(rounds([0, 0], [TO_ONE], 1, 0), [[None, 0]])
        self.assertEqual(rounds([0, 0], [[(1, 0, 9)]], 1, 0), [[None, 0]])


class TestFurtherRounds(unittest.TestCase):
    def test_a_round_gives_a_coming_to_a_stop_that_had_none(self):
        rides = [TO_ONE, [(1, 15, 15), (2, 20, 20)], [(2, 30, 30), (3, 31, 31)]]
        self.assertEqual(
            rounds([0, 5, 0, 0], rides, 0, 0),
            [
                [0, None, None, None],
                [0, 10, None, None],
                [0, 10, 20, None],
                [0, 10, 20, 31],
            ],
        )

    def test_a_round_only_makes_a_coming_earlier(self):
        rides = [[(0, 0, 0), (1, 10, 10), (2, 40, 40)], [(1, 15, 15), (2, 20, 20)]]
        self.assertEqual(
            rounds([0, 5, 0], rides, 0, 0),
            [[0, None, None], [0, 10, 40], [0, 10, 20]],
        )

    def test_each_round_makes_the_coming_earlier_once_more(self):
        rides = [
            [(0, 0, 0), (1, 1, 1), (4, 90, 90)],
            [(1, 2, 2), (2, 3, 3), (4, 80, 80)],
            [(2, 4, 4), (3, 5, 5), (4, 70, 70)],
            [(3, 6, 6), (4, 60, 60)],
        ]
        answer = rounds([1] * 5, rides, 0, 0)
        self.assertEqual([comings[4] for comings in answer], [None, 90, 80, 70, 60])
        self.assertEqual([comings[3] for comings in answer], [None, None, None, 5, 5])

    def test_no_round_more_than_brings_something_new(self):
        # A further part goes on to stop 2, but comes there no earlier.
        for coming in (20, 21, 99):
            rides = [[(0, 0, 0), (1, 10, 10), (2, 20, 20)], [(1, 12, 12), (2, coming, coming)]]
            with self.subTest(coming=coming):
                self.assertEqual(rounds([0, 0, 0], rides, 0, 0), [[0, None, None], [0, 10, 20]])
        rides[1] = [(1, 12, 12), (2, 19, 19)]
        self.assertEqual(len(rounds([0, 0, 0], rides, 0, 0)), 3)

    def test_rides_in_any_order_of_numbers(self):
        # Two parts never count as one, whichever ride stands first.
        first, second = TO_ONE, [(1, 15, 15), (2, 20, 20)]
        wanted = [[0, None, None], [0, 10, None], [0, 10, 20]]
        self.assertEqual(rounds([0, 5, 0], [first, second], 0, 0), wanted)
        self.assertEqual(rounds([0, 5, 0], [second, first], 0, 0), wanted)

    def test_the_earlier_of_two_coaches(self):
        slow, quick = [(0, 0, 0), (1, 30, 30)], [(0, 9, 9), (1, 12, 12)]
        for rides in ([slow, quick], [quick, slow]):
            with self.subTest(rides=rides):
                self.assertEqual(rounds([0, 0], rides, 0, 0), [[0, None], [0, 12]])

    def test_calls_between_do_not_matter(self):
        ride = [(0, 0, 0), (1, 1, 2), (2, 3, 4), (3, 5, 6)]
        wanted = [[0, None, None, None], [0, 1, 3, 5]]
        self.assertEqual(rounds([0, 0, 0, 0], [ride], 0, 0), wanted)
        self.assertEqual(rounds([9, 9, 9, 9], [ride], 0, 0), wanted)

    def test_one_gets_on_when_the_coach_leaves_and_off_when_it_comes(self):
        ride = [(0, 1, 5), (1, 8, 12)]
        for time, wanted in ((0, 8), (1, 8), (5, 8), (6, None)):
            with self.subTest(time=time):
                self.assertEqual(rounds([0, 0], [ride], 0, time)[-1], [time, wanted])

    def test_getting_on_at_the_last_call_goes_nowhere(self):
        self.assertEqual(rounds([0, 0], [[(1, 0, 0), (0, 5, 5)]], 0, 0), [[0, None]])


class TestPauses(unittest.TestCase):
    def last_coming(self, pause, leave):
        rides = [TO_ONE, [(1, 0, leave), (2, leave + 1, leave + 1)]]
        return rounds([0, pause, 0], rides, 0, 0)[-1][2]

    def test_a_change_within_the_pause_at_it_and_behind_it(self):
        self.assertIsNone(self.last_coming(5, 14))
        self.assertEqual(self.last_coming(5, 15), 16)
        self.assertEqual(self.last_coming(5, 16), 17)

    def test_a_pause_of_nought(self):
        self.assertIsNone(self.last_coming(0, 9))
        self.assertEqual(self.last_coming(0, 10), 11)

    def test_a_great_pause(self):
        self.assertIsNone(self.last_coming(GREAT, GREAT + 9))
        self.assertEqual(self.last_coming(GREAT, GREAT + 10), GREAT + 11)

    def test_a_change_that_comes_just_in_time_for_the_later_coach(self):
        early, late = [(1, 14, 14), (2, 16, 16)], [(1, 15, 15), (2, 30, 30)]
        for rides in ([TO_ONE, early, late], [late, early, TO_ONE]):
            with self.subTest(rides=rides):
                self.assertEqual(rounds([0, 5, 0], rides, 0, 0)[-1], [0, 10, 30])
                self.assertEqual(rounds([0, 4, 0], rides, 0, 0)[-1], [0, 10, 16])

    def test_each_stop_has_its_own_pause(self):
        rides = [TO_ONE, [(1, 13, 13), (2, 14, 14)], [(2, 16, 16), (3, 17, 17)]]
        self.assertEqual(rounds([99, 3, 2, 99], rides, 0, 0)[-1], [0, 10, 14, 17])
        self.assertEqual(rounds([0, 4, 0, 0], rides, 0, 0)[-1], [0, 10, None, None])
        self.assertEqual(rounds([0, 0, 3, 0], rides, 0, 0)[-1], [0, 10, 14, None])

    def test_no_pause_ahead_of_the_first_part(self):
        for pause in (1, 5, GREAT):
            with self.subTest(pause=pause):
                self.assertEqual(rounds([pause, 0], [TO_ONE], 0, 0), [[0, None], [0, 10]])

    def test_a_change_to_the_same_ride_needs_the_pause(self):
        # Off at stop 1 at 2, and the same coach leaves it again at 6: that is no gain.
        ride = [(0, 0, 0), (1, 2, 3), (0, 4, 4), (1, 5, 6), (2, 9, 9)]
        for pause in (0, 4, 5):
            with self.subTest(pause=pause):
                self.assertEqual(rounds([0, pause, 0], [ride], 0, 0), [[0, None, None], [0, 2, 9]])


class TestCallsAtOneStop(unittest.TestCase):
    RIDE = [(0, 0, 0), (1, 3, 4), (0, 6, 7), (1, 9, 10), (2, 12, 12)]

    def test_the_first_coming_counts(self):
        self.assertEqual(rounds([0, 0, 0], [self.RIDE], 0, 0), [[0, None, None], [0, 3, 12]])

    def test_a_later_call_where_the_first_is_missed(self):
        for time in (1, 6, 7):
            with self.subTest(time=time):
                wanted = [[time, None, None], [time, 9, 12]]
                self.assertEqual(rounds([0, 0, 0], [self.RIDE], 0, time), wanted)
        self.assertEqual(rounds([0, 0, 0], [self.RIDE], 0, 8), [[8, None, None]])

    def test_from_the_stop_in_between(self):
        self.assertEqual(rounds([0, 0, 0], [self.RIDE], 1, 4)[-1], [6, 4, 12])
        self.assertEqual(rounds([0, 0, 0], [self.RIDE], 1, 5)[-1], [None, 5, 12])

    def test_one_stop_twice_in_a_row(self):
        ride = [(0, 0, 1), (0, 3, 4), (1, 5, 5)]
        self.assertEqual(rounds([0, 0], [ride], 0, 2), [[2, None], [2, 5]])

    def test_a_change_at_the_second_call_of_the_other_ride(self):
        other = [(1, 2, 3), (3, 4, 4), (1, 7, 8), (3, 11, 11)]
        rides = [[(0, 0, 0), (1, 3, 3)], other]
        self.assertEqual(rounds([0, 0, 0, 0], rides, 0, 0)[-1], [0, 3, None, 4])
        self.assertEqual(rounds([0, 5, 0, 0], rides, 0, 0)[-1], [0, 3, None, 11])
        self.assertEqual(rounds([0, 6, 0, 0], rides, 0, 0)[-1], [0, 3, None, None])


class TestBackToTheFirstStop(unittest.TestCase):
    def test_coming_back_brings_nothing_new(self):
        rides = [[(0, 0, 0), (1, 3, 3), (0, 5, 5)], [(1, 4, 4), (0, 5, 6)]]
        self.assertEqual(rounds([0, 0], rides, 0, 0), [[0, None], [0, 3]])

    def test_a_ride_to_the_first_stop_alone(self):
        self.assertEqual(rounds([0], [[(0, 0, 0), (0, 1, 1)]], 0, 0), [[0]])

    def test_the_pause_of_the_first_stop_holds_nobody_who_began_there(self):
        rides = [[(0, 0, 0), (1, 3, 3), (0, 5, 5)], [(0, 6, 6), (2, 7, 7)]]
        self.assertEqual(rounds([9, 0, 0], rides, 0, 0), [[0, None, None], [0, 3, 7]])


class TestNumbers(unittest.TestCase):
    def test_times_of_any_sign(self):
        rides = [[(0, -9, -8), (1, -5, -5)], [(1, -3, -2), (2, 0, 0)], [(2, 0, 0), (3, 1, 1)]]
        self.assertEqual(
            rounds([0, 3, 0, 0], rides, 0, -8),
            [
                [-8, None, None, None],
                [-8, -5, None, None],
                [-8, -5, 0, None],
                [-8, -5, 0, 1],
            ],
        )
        self.assertEqual(rounds([0, 4, 0, 0], rides, 0, -8)[-1], [-8, -5, None, None])

    def test_a_coming_at_nought_is_a_coming(self):
        rides = [[(0, -1, -1), (1, 0, 0)], [(1, 0, 0), (2, 1, 1)]]
        self.assertEqual(rounds([0, 0, 0], rides, 0, -1), [[-1, None, None], [-1, 0, None], [-1, 0, 1]])
        self.assertEqual(rounds([0, 0, 0], rides, 1, 0), [[None, 0, None], [None, 0, 1]])

    def test_great_times(self):
        rides = [[(0, -GREAT, -GREAT), (1, 0, 0)], [(1, GREAT, GREAT), (2, GREAT + 1, GREAT + 1)]]
        wanted = [[-GREAT, None, None], [-GREAT, 0, None], [-GREAT, 0, GREAT + 1]]
        self.assertEqual(rounds([0, GREAT, 0], rides, 0, -GREAT), wanted)
        self.assertEqual(rounds([0, GREAT + 1, 0], rides, 0, -GREAT), wanted[:2])
        self.assertEqual(rounds([0, 0, 0], rides, 0, 1 - GREAT), [[1 - GREAT, None, None]])

    def test_as_many_rounds_as_stops(self):
        rides = [[(k, 10 * k, 10 * k), (k + 1, 10 * k + 5, 10 * k + 5)] for k in range(39)]
        answer = rounds([5] * 40, rides, 0, 0)
        self.assertEqual(len(answer), 40)
        for count, comings in enumerate(answer):
            wanted = [0] + [10 * k + 5 for k in range(count)] + [None] * (39 - count)
            self.assertEqual(comings, wanted)
        self.assertEqual(len(rounds([5] * 20 + [6] + [5] * 19, rides, 0, 0)), 21)


class TestAnswer(unittest.TestCase):
    def test_kinds(self):
        answer = rounds([0, 0, 0], [TO_ONE], 0, 0)
        self.assertEqual(type(answer), list)
        self.assertEqual([type(comings) for comings in answer], [list, list])

    def test_rounds_are_apart_from_one_another(self):
        answer = rounds([0, 0], [TO_ONE], 0, 0)
        answer[0].clear()
        self.assertEqual(answer, [[], [0, 10]])
        self.assertEqual(rounds([0, 0], [TO_ONE], 0, 0), [[0, None], [0, 10]])


if __name__ == "__main__":
    unittest.main()
