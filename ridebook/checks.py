"""What rides and stops must be, and what is refused ahead of every answer."""

from ridebook.errors import NoRide, NoStop


def is_stop(pauses, stop):
    return 0 <= stop < len(pauses)


def keeps_time(ride):
    # Times may be of any sign, so no number can stand for "no call ahead".
    left = None
    for stop, come, leave in ride:
        if leave < come or (left is not None and come <= left):
            return False
        left = leave
    return True


def check_ride(pauses, ride):
    if len(ride) == 0:
        raise NoRide("a ride has no call")
    if not keeps_time(ride):
        raise NoRide("a ride's times don't follow one another")
    for stop, come, leave in ride:
        if not is_stop(pauses, stop):
            raise NoRide("a call is at no stop")


def check_rides(pauses, rides):
    for ride in rides:
        check_ride(pauses, ride)


def check_stop(pauses, stop):
    if not is_stop(pauses, stop):
        raise NoStop("there is no such stop")


def check_ask(pauses, rides, start, goal):
    # Rides are refused ahead of stops, whichever function is asked.
    check_rides(pauses, rides)
    check_stop(pauses, start)
    check_stop(pauses, goal)
