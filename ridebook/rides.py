"""Rides turned round, and rides that are late."""

from ridebook.errors import NoRide


def turned_ride(ride):
    return [(stop, -leave, -come) for stop, come, leave in reversed(ride)]


def turned(rides):
    return [turned_ride(ride) for ride in rides]


def moved(call, come_later, leave_later):
    return (call[0], call[1] + come_later, call[2] + leave_later)


def late_ride(ride, first, late):
    ahead = ride[:first]
    # The coach had come to the first late call in time: only its leaving moves.
    held = [moved(ride[first], 0, late)]
    behind = [moved(call, late, late) for call in ride[first + 1:]]
    return ahead + held + behind


def late_by(rides, number, call, late):
    # An index below nought would count from the end, so both ends are asked for.
    if not 0 <= number < len(rides):
        raise NoRide("there is no ride of this number")
    if not 0 <= call < len(rides[number]):
        raise NoRide("the ride has no call of this number")
    if late < 0:
        raise NoRide("a ride is late by nought or more")
    # Fresh lists throughout: whoever changes the answer leaves the rides as they were.
    answer = [list(ride) for ride in rides]
    answer[number] = late_ride(rides[number], call, late)
    return answer
