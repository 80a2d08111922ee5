"""Every answer on small rides, held against all trips there are."""

import itertools
import random
import unittest

from ridebook.asks import choices, earliest, fewest, latest
from ridebook.errors import NoWay
from ridebook.parts import coming_of
from ridebook.rides import turned
from ridebook.rounds import rounds
from ridebook.trips import trip_for

LOW = -3
HIGH = 17


def all_trips(pauses, rides, start, time):
    """Each trip from the stop from the time on, to wherever it goes: (parts, stop, coming)."""
    found = [([], start, time)]
    # Each part comes later than it leaves, so the list ends.
    for parts, stop, coming in found:
        ready = coming + pauses[stop] if parts else time
        for number, ride in enumerate(rides):
            for on, off in itertools.combinations(range(len(ride)), 2):
                if ride[on][0] == stop and ride[on][2] >= ready:
                    found.append((parts + [(number, on, off)], ride[off][0], ride[off][1]))
    return found


def some_ride(chance, stops):
    """A ride within the times from LOW to HIGH."""
    calls = []
    come = chance.randrange(LOW, HIGH - 5)
    count = chance.choice((1, 2, 2, 2, 3, 4))
    while len(calls) < count and come < HIGH - 1:
        leave = come + chance.choice((0, 0, 1))
        calls.append((chance.randrange(stops), come, leave))
        come = leave + chance.choice((1, 1, 2, 4, 7))
    return calls


def some_questions(count):
    chance = random.Random(20)
    for k in range(count):
        stops = chance.choice((1, 2, 3, 4, 4, 5))
        pauses = [chance.choice((0, 0, 1, 2, 5)) for stop in range(stops)]
        yield pauses, [some_ride(chance, stops) for k in range(chance.choice((0, 1, 3, 6, 9, 12)))]


class Small:
    """Small rides with all their trips, from each stop from each time on."""

    def __init__(self, pauses, rides):
        self.pauses = pauses
        self.rides = rides
        self.stops = range(len(pauses))
        self.trips = {
            (start, time): all_trips(pauses, rides, start, time)
            for start in self.stops
            for time in range(LOW, HIGH + 1)
        }

    def to(self, start, goal, time):
        return [(parts, coming) for parts, stop, coming in self.trips[start, time] if stop == goal]

    def earliest(self, start, goal, time):
        return min((coming for parts, coming in self.to(start, goal, time)), default=None)

    def latest(self, start, goal, end):
        times = [
            time
            for time in range(LOW, HIGH + 1)
            if any(coming <= end for parts, coming in self.to(start, goal, time))
        ]
        return max(times, default=None)

    def fewest(self, start, goal, time, end):
        return min((len(parts) for parts, coming in self.to(start, goal, time) if coming <= end), default=None)

    def comings(self, start, time, count):
        """The earliest comings with at most so many parts."""
        return [
            min(
                (coming for parts, coming in self.to(start, stop, time) if len(parts) <= count),
                default=None,
            )
            for stop in self.stops
        ]

    def rounds(self, start, time):
        most = max(len(parts) for parts, stop, coming in self.trips[start, time])
        told = [self.comings(start, time, count) for count in range(most + 1)]
        news = [k for k in range(1, most + 1) if told[k] != told[k - 1]]
        return told[: max(news, default=0) + 1]

    def choices(self, start, goal, first, last):
        """The pairs of leaving and coming that no other trip betters."""
        pairs = {
            (self.rides[parts[0][0]][parts[0][1]][2], coming) for parts, coming in self.to(start, goal, first)
        }
        best = [
            (leave, coming)
            for leave, coming in pairs
            if not any(
                other != (leave, coming) and other[0] >= leave and other[1] <= coming for other in pairs
            )
        ]
        return sorted(pair for pair in best if pair[0] <= last)


class TestAgainstAllTrips(unittest.TestCase):
    @classmethod
    def setUpClass(cls):
        cls.smalls = [Small(pauses, rides) for pauses, rides in some_questions(120)]

    def each_ask(self):
        for small in self.smalls:
            for start, goal in itertools.product(small.stops, repeat=2):
                for time in range(LOW, HIGH + 1):
                    yield small, start, goal, time

    def same(self, answer, wanted, *question):
        if answer != wanted:
            self.fail(f"{question}: {answer}, not {wanted}")

    def test_the_rides_are_worth_asking(self):
        counts = [len(small.rounds(start, LOW)) for small in self.smalls for start in small.stops]
        self.assertEqual(set(range(1, 5)) - set(counts), set())
        trips = [len(small.to(0, stop, LOW)) for small in self.smalls for stop in small.stops]
        self.assertGreater(max(trips), 20)
        self.assertIn(0, trips)

    def test_rounds(self):
        for small in self.smalls:
            for start in small.stops:
                for time in range(LOW, HIGH + 1):
                    answer = rounds(small.pauses, small.rides, start, time)
                    self.same(answer, small.rounds(start, time), small.pauses, small.rides, start, time)

    def test_earliest(self):
        for small, start, goal, time in self.each_ask():
            answer = earliest(small.pauses, small.rides, start, goal, time)
            self.same(answer, small.earliest(start, goal, time), small.pauses, small.rides, start, goal, time)

    def test_trip_for(self):
        for small, start, goal, time in self.each_ask():
            wanted = small.earliest(start, goal, time)
            question = (small.pauses, small.rides, start, goal, time)
            if wanted is None:
                with self.assertRaises(NoWay):
                    trip_for(*question)
                continue
            trip = trip_for(*question)
            self.same(coming_of(*question, trip), wanted, *question, trip)
            self.assertIn((trip, wanted), small.to(start, goal, time))
            self.same(len(trip), small.fewest(start, goal, time, wanted), *question, trip)

    def test_latest(self):
        for small, start, goal, end in self.each_ask():
            answer = latest(small.pauses, small.rides, start, goal, end)
            self.same(answer, small.latest(start, goal, end), small.pauses, small.rides, start, goal, end)

    def test_latest_is_earliest_turned_round(self):
        for small, start, goal, end in self.each_ask():
            answer = latest(small.pauses, small.rides, start, goal, end)
            back = earliest(small.pauses, turned(small.rides), goal, start, -end)
            self.same(answer, None if back is None else -back, small.pauses, small.rides, start, goal, end)

    def test_fewest(self):
        for small, start, goal, time in self.each_ask():
            for end in range(LOW, HIGH + 1, 3):
                answer = fewest(small.pauses, small.rides, start, goal, time, end)
                wanted = small.fewest(start, goal, time, end)
                self.same(answer, wanted, small.pauses, small.rides, start, goal, time, end)

    def test_choices(self):
        for small, start, goal, first in self.each_ask():
            if start == goal:
                continue
            for last in (first - 1, first, first + 3, first + 9, HIGH):
                answer = choices(small.pauses, small.rides, start, goal, first, last)
                wanted = small.choices(start, goal, first, last)
                self.same(answer, wanted, small.pauses, small.rides, start, goal, first, last)

    def test_choices_tell_each_earliest_coming_between(self):
        for small, start, goal, first in self.each_ask():
            if start == goal:
                continue
            told = choices(small.pauses, small.rides, start, goal, first, HIGH)
            for time in range(first, HIGH + 1):
                comings = [coming for leave, coming in told if leave >= time]
                wanted = comings[0] if comings else None
                self.same(small.earliest(start, goal, time), wanted, small.pauses, small.rides, start, goal, time)


if __name__ == "__main__":
    unittest.main()
