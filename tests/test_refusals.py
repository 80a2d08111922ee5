"""What every function that takes pauses and rides refuses, and that it changes nothing."""

import copy
import unittest

from ridebook.asks import choices, earliest, fewest, latest
from ridebook.errors import NoRide, NoStop, NoWay
from ridebook.parts import coming_of
from ridebook.rounds import rounds
from ridebook.trips import trip_for

GREAT = 10 ** 99 + 7

# Each is asked with its start and goal; `rounds` has no goal, and is asked below for its start alone.
ASKS = {
    "coming_of": lambda pauses, rides, start, goal: coming_of(pauses, rides, start, goal, 0, []),
    "coming_of a part": lambda pauses, rides, start, goal: coming_of(pauses, rides, start, goal, 0, [(0, 0, 1)]),
    "coming_of no part": lambda pauses, rides, start, goal: coming_of(pauses, rides, start, goal, 0, [(9, 9, 9)]),
    "trip_for": lambda pauses, rides, start, goal: trip_for(pauses, rides, start, goal, 0),
    "trip_for too late": lambda pauses, rides, start, goal: trip_for(pauses, rides, start, goal, GREAT),
    "earliest": lambda pauses, rides, start, goal: earliest(pauses, rides, start, goal, 0),
    "latest": lambda pauses, rides, start, goal: latest(pauses, rides, start, goal, 9),
    "fewest": lambda pauses, rides, start, goal: fewest(pauses, rides, start, goal, 0, 9),
    "fewest with no time": lambda pauses, rides, start, goal: fewest(pauses, rides, start, goal, 9, 0),
    "choices": lambda pauses, rides, start, goal: choices(pauses, rides, start, goal, 0, 9),
    "choices with no time": lambda pauses, rides, start, goal: choices(pauses, rides, start, goal, 9, 0),
}

WRONG = {
    "no call": [],
    "leaves earlier than it comes": [(0, 10, 9)],
    "a later call leaves earlier than it comes": [(0, 1, 2), (1, 10, 9)],
    "a middle call leaves earlier than it comes": [(0, 1, 2), (1, 10, 9), (0, 20, 20)],
    "comes just when it left the call ahead": [(0, 1, 2), (1, 2, 3)],
    "comes earlier than it left the call ahead": [(0, 1, 5), (1, 3, 9)],
    "comes later than it came, but not than it left": [(0, 1, 5), (1, 4, 6), (0, 9, 9)],
    "the last call is too early": [(0, 1, 1), (1, 3, 4), (0, 4, 5)],
    "times below nought that fall": [(0, -5, -5), (1, -6, -6)],
    "times below nought, leaves too early": [(0, -5, -6)],
    "comes at nought where it left at nought": [(0, -1, 0), (1, 0, 1)],
    "a stop below nought": [(-1, 1, 2)],
    "a stop that is the number of stops": [(2, 1, 2)],
    "a great stop": [(GREAT, 1, 2)],
    "a great stop below nought": [(-GREAT, 1, 2)],
    "a later call at no stop": [(0, 1, 2), (2, 3, 4)],
    "a later call at a stop below nought": [(0, 1, 2), (-2, 3, 4)],
}
RIGHT = [(0, 1, 1), (1, 2, 2)]
NO_STOPS = (-1, -2, -3, 2, 3, GREAT, -GREAT, 10 ** 5000)


class TestRefusedRides(unittest.TestCase):
    def test_each_way_in_which_rides_are_refused(self):
        for words, ride in WRONG.items():
            for rides in ([ride], [ride, RIGHT], [RIGHT, ride]):
                for name, ask in ASKS.items():
                    with self.subTest(words, name=name, rides=rides), self.assertRaises(NoRide):
                        ask([0, 0], rides, 0, 1)
                with self.subTest(words, name="rounds", rides=rides), self.assertRaises(NoRide):
                    rounds([0, 0], rides, 0, 0)

    def test_ahead_of_stops(self):
        for words, ride in WRONG.items():
            for name, ask in ASKS.items():
                for start, goal in ((-1, 0), (0, -1), (2, 0), (0, 2), (-1, 2), (2, 2)):
                    with self.subTest(words, name=name, start=start, goal=goal), self.assertRaises(NoRide):
                        ask([0, 0], [RIGHT, ride], start, goal)
            for start in (-1, 2):
                with self.subTest(words, name="rounds", start=start), self.assertRaises(NoRide):
                    rounds([0, 0], [RIGHT, ride], start, 0)

    def test_ahead_of_no_way(self):
        for words, ride in WRONG.items():
            for rides in ([ride], [RIGHT, ride]):
                with self.subTest(words, rides=rides):
                    with self.assertRaises(NoRide):
                        trip_for([0, 0], rides, 1, 0, GREAT)
                    with self.assertRaises(NoRide):
                        choices([0, 0], rides, 1, 1, 0, 9)

    def test_from_a_stop_to_itself(self):
        for words, ride in WRONG.items():
            for name, ask in ASKS.items():
                with self.subTest(words, name=name), self.assertRaises(NoRide):
                    ask([0, 0], [RIGHT, ride], 1, 1)

    def test_rides_at_the_edge_are_taken(self):
        edges = [
            [[(0, 5, 5)]],
            [[(1, 5, 5)]],
            [[(0, 5, 5), (1, 6, 6)]],
            [[(0, -1, 0), (0, 1, 1)]],
            [[(0, -5, -5), (1, -4, 0)]],
            [[(0, 9, 9)], [(0, 1, 1)]],
            [],
        ]
        for rides in edges:
            with self.subTest(rides=rides):
                self.assertEqual(coming_of([0, 0], rides, 1, 1, 3, []), 3)
                self.assertEqual(rounds([0, 0], rides, 1, 3), [[None, 3]])
                self.assertEqual(trip_for([0, 0], rides, 1, 1, 3), [])
                self.assertEqual(earliest([0, 0], rides, 1, 1, 3), 3)
                self.assertEqual(latest([0, 0], rides, 1, 1, 3), 3)
                self.assertEqual(fewest([0, 0], rides, 1, 1, 3, 3), 0)
                self.assertEqual(choices([0, 0], rides, 1, 0, 0, 9), [])


class TestRefusedStops(unittest.TestCase):
    def test_stops_that_are_none(self):
        # Words with the stop in them would be too long, so no subTest tells it.
        for stop in NO_STOPS:
            for start, goal in ((stop, 0), (0, stop), (1, stop), (stop, stop)):
                for ask in ASKS.values():
                    with self.assertRaises(NoStop):
                        ask([0, 0], [RIGHT], start, goal)
            with self.assertRaises(NoStop):
                rounds([0, 0], [RIGHT], stop, 0)

    def test_without_rides(self):
        for name, ask in ASKS.items():
            for start, goal in ((0, 2), (2, 0), (-1, 1), (1, -1), (2, 2), (-1, -1)):
                with self.subTest(name, start=start, goal=goal), self.assertRaises(NoStop):
                    ask([0, 0], [], start, goal)

    def test_the_one_stop(self):
        for name, ask in ASKS.items():
            for start, goal in ((0, 1), (1, 0), (-1, 0), (0, -1)):
                with self.subTest(name, start=start, goal=goal), self.assertRaises(NoStop):
                    ask([3], [], start, goal)
        for start in (1, -1):
            with self.subTest("rounds", start=start), self.assertRaises(NoStop):
                rounds([3], [], start, 0)

    def test_the_last_stop_is_one(self):
        self.assertEqual(rounds([0, 0], [RIGHT], 1, 0), [[None, 0]])
        self.assertEqual(earliest([0, 0], [RIGHT], 0, 1, 0), 2)

    def test_ahead_of_no_way(self):
        for stop in NO_STOPS:
            with self.assertRaises(NoStop):
                choices([0, 0], [RIGHT], stop, stop, 0, 9)
            with self.assertRaises(NoStop):
                trip_for([0, 0], [], 0, stop, 0)


class TestNothingIsChanged(unittest.TestCase):
    PAUSES = [1, 0, 2]
    RIDES = [
        [(0, 0, 1), (1, 3, 3), (2, 9, 9)],
        [(1, 4, 4), (2, 6, 7), (0, 9, 9)],
        [(0, 4, 5), (2, 8, 8)],
    ]
    PARTS = [(0, 0, 1), (1, 0, 1)]
    ASKED = {
        "coming_of": (coming_of, 6, (0, 2, 0, PARTS)),
        "coming_of None": (coming_of, None, (0, 1, 0, PARTS)),
        "rounds": (rounds, [[0, None, None], [0, 3, 8], [0, 3, 6]], (0, 0)),
        "trip_for": (trip_for, PARTS, (0, 2, 0)),
        "earliest": (earliest, 6, (0, 2, 0)),
        "latest": (latest, 5, (0, 2, 8)),
        "fewest": (fewest, 1, (0, 2, 0, 8)),
        "choices": (choices, [(1, 6), (5, 8)], (0, 2, 0, 9)),
        "trip_for to itself": (trip_for, [], (1, 1, 0)),
    }

    def test_what_is_handed_in_is_as_it_was(self):
        for name, (ask, wanted, more) in self.ASKED.items():
            handed = copy.deepcopy((self.PAUSES, self.RIDES) + more)
            with self.subTest(name):
                self.assertEqual(ask(*handed), wanted)
                self.assertEqual(handed, (self.PAUSES, self.RIDES) + more)

    def test_answers_are_apart_from_what_is_handed_in(self):
        for name, (ask, wanted, more) in self.ASKED.items():
            handed = copy.deepcopy((self.PAUSES, self.RIDES) + more)
            answer = ask(*handed)
            if not isinstance(answer, list):
                continue
            with self.subTest(name):
                for inner in answer:
                    if isinstance(inner, list):
                        inner.clear()
                answer.clear()
                self.assertEqual(handed, (self.PAUSES, self.RIDES) + more)
                self.assertEqual(ask(*handed), wanted)

    def test_after_a_refusal(self):
        wrong = [[(0, 1, 1), (1, 1, 1)], []]
        for name, ask in ASKS.items():
            for rides, start, goal, refusal in ((wrong, 0, 1, NoRide), ([RIGHT], 0, 5, NoStop)):
                pauses = [4, 0]
                handed = copy.deepcopy(rides)
                with self.subTest(name, refusal=refusal.__name__):
                    with self.assertRaises(refusal):
                        ask(pauses, handed, start, goal)
                    self.assertEqual((pauses, handed), ([4, 0], rides))

    def test_after_no_way(self):
        for ask, more in ((trip_for, (1, 0, 0)), (choices, (1, 1, 0, 9))):
            pauses = [4, 0]
            handed = [list(RIGHT)]
            with self.assertRaises(NoWay):
                ask(pauses, handed, *more)
            self.assertEqual((pauses, handed), ([4, 0], [RIGHT]))


if __name__ == "__main__":
    unittest.main()
