import copy
import unittest

from ridebook.errors import NoRide, NoStop
from ridebook.rides import late_by, turned

GREAT = 10 ** 99 + 7

# Its first coach calls at the stop 1 twice.
RIDES = [
    [(1, 0, 5), (2, 9, 9), (1, 12, 15), (3, 20, 21)],
    [(0, -7, -7)],
    [(2, -9, -4), (0, -1, 0)],
]


def same_kinds(answer):
    kinds = {type(answer)} | {type(ride) for ride in answer}
    return kinds == {list} and all(type(call) is tuple for ride in answer for call in ride)


class TestTurned(unittest.TestCase):
    def test_example_of_the_document(self):
        self.assertEqual(turned([[(4, 10, 12)]]), [[(4, -12, -10)]])

    def test_one_call(self):
        self.assertEqual(turned([[(0, -7, -7)]]), [[(0, 7, 7)]])
        self.assertEqual(turned([[(0, 0, 0)]]), [[(0, 0, 0)]])
        self.assertEqual(turned([[(2, -3, 8)]]), [[(2, -8, 3)]])

    def test_several_calls_and_a_stop_called_at_twice(self):
        self.assertEqual(
            turned(RIDES),
            [
                [(3, -21, -20), (1, -15, -12), (2, -9, -9), (1, -5, 0)],
                [(0, 7, 7)],
                [(0, 0, 1), (2, 4, 9)],
            ],
        )

    def test_rides_keep_their_numbers(self):
        rides = [[(0, 1, 2)], [(1, 3, 4)], [(2, 5, 6)]]
        self.assertEqual([ride[0][0] for ride in turned(rides)], [0, 1, 2])

    def test_no_rides(self):
        self.assertEqual(turned([]), [])

    def test_great_numbers(self):
        rides = [[(0, -GREAT, 0), (1, GREAT, GREAT + 1)]]
        self.assertEqual(turned(rides), [[(1, -GREAT - 1, -GREAT), (0, 0, GREAT)]])

    def test_turned_of_turned(self):
        for rides in ([], RIDES, [[(0, -GREAT, GREAT)]]):
            with self.subTest(rides=rides):
                self.assertEqual(turned(turned(rides)), rides)

    def test_kinds(self):
        self.assertTrue(same_kinds(turned(RIDES)))
        self.assertEqual(type(turned([])), list)

    def test_rides_are_as_they_were(self):
        rides = copy.deepcopy(RIDES)
        answer = turned(rides)
        self.assertEqual(rides, RIDES)
        for ride in answer:
            ride.clear()
        answer.clear()
        self.assertEqual(rides, RIDES)


class TestLateBy(unittest.TestCase):
    def refused(self, number, call, late):
        rides = copy.deepcopy(RIDES)
        with self.assertRaises(NoRide):
            late_by(rides, number, call, late)
        self.assertEqual(rides, RIDES)

    def test_from_the_first_call(self):
        self.assertEqual(
            late_by(RIDES, 0, 0, 4),
            [[(1, 0, 9), (2, 13, 13), (1, 16, 19), (3, 24, 25)], RIDES[1], RIDES[2]],
        )

    def test_from_a_middle_call(self):
        self.assertEqual(
            late_by(RIDES, 0, 1, 4),
            [[(1, 0, 5), (2, 9, 13), (1, 16, 19), (3, 24, 25)], RIDES[1], RIDES[2]],
        )
        self.assertEqual(
            late_by(RIDES, 0, 2, 1),
            [[(1, 0, 5), (2, 9, 9), (1, 12, 16), (3, 21, 22)], RIDES[1], RIDES[2]],
        )

    def test_from_the_last_call(self):
        self.assertEqual(
            late_by(RIDES, 0, 3, 4),
            [[(1, 0, 5), (2, 9, 9), (1, 12, 15), (3, 20, 25)], RIDES[1], RIDES[2]],
        )

    def test_the_one_call_of_a_ride(self):
        self.assertEqual(late_by(RIDES, 1, 0, 3), [RIDES[0], [(0, -7, -4)], RIDES[2]])

    def test_the_last_ride(self):
        self.assertEqual(
            late_by(RIDES, 2, 0, 10), [RIDES[0], RIDES[1], [(2, -9, 6), (0, 9, 10)]]
        )

    def test_nought(self):
        for number, ride in enumerate(RIDES):
            for call in range(len(ride)):
                with self.subTest(number=number, call=call):
                    self.assertEqual(late_by(RIDES, number, call, 0), RIDES)

    def test_great_numbers(self):
        self.assertEqual(
            late_by(RIDES, 2, 0, GREAT),
            [RIDES[0], RIDES[1], [(2, -9, GREAT - 4), (0, GREAT - 1, GREAT)]],
        )
        self.assertEqual(
            late_by([[(0, -GREAT, -GREAT), (1, GREAT, GREAT)]], 0, 1, 1),
            [[(0, -GREAT, -GREAT), (1, GREAT, GREAT + 1)]],
        )

    def test_late_twice_adds_up(self):
        self.assertEqual(late_by(late_by(RIDES, 0, 1, 2), 0, 1, 3), late_by(RIDES, 0, 1, 5))

    def test_no_such_ride(self):
        for number in (-1, -2, -3, -4, 3, 4, GREAT, -GREAT):
            with self.subTest(number=number):
                self.refused(number, 0, 1)

    def test_no_ride_at_all(self):
        for number in (-1, 0, 1):
            with self.subTest(number=number), self.assertRaises(NoRide):
                late_by([], number, 0, 0)

    def test_no_such_call(self):
        for number, ride in enumerate(RIDES):
            for call in (-1, -len(ride), -len(ride) - 1, len(ride), len(ride) + 1, GREAT, -GREAT):
                with self.subTest(number=number, call=call):
                    self.refused(number, call, 1)

    def test_late_below_nought(self):
        for late in (-1, -2, -GREAT):
            with self.subTest(late=late):
                self.refused(0, 0, late)
                self.refused(0, 3, late)

    def test_numbers_of_any_length_are_refused_alike(self):
        longest = 10 ** 5000
        self.refused(longest, 0, 1)
        self.refused(0, longest, 1)
        self.refused(0, 0, -longest)

    def test_the_refusal_is_no_sibling(self):
        with self.assertRaises(NoRide) as caught:
            late_by(RIDES, 3, 0, 1)
        self.assertNotIsInstance(caught.exception, NoStop)

    def test_kinds(self):
        self.assertTrue(same_kinds(late_by(RIDES, 0, 1, 4)))

    def test_rides_are_as_they_were(self):
        for late in (0, 4):
            with self.subTest(late=late):
                rides = copy.deepcopy(RIDES)
                answer = late_by(rides, 0, 1, late)
                self.assertEqual(rides, RIDES)
                for ride in answer:
                    ride.clear()
                answer.clear()
                self.assertEqual(rides, RIDES)


if __name__ == "__main__":
    unittest.main()
