"""What every function that takes pauses and rides refuses ahead of its answer."""

from ridebook.errors import NoRide, NoStop


def is_stop(pauses, stop):
    return 0 <= stop < len(pauses)


def check_call(pauses, stop, come, leave):
    if not is_stop(pauses, stop):
        raise NoRide("a call is at no stop")
    if leave < come:
        raise NoRide("a coach leaves a call earlier than it comes there")


def check_ride(pauses, ride):
    if len(ride) == 0:
        raise NoRide("a ride has no call")
    # Times may be of any sign, so no number can stand for "no call ahead".
    left = None
    for stop, come, leave in ride:
        check_call(pauses, stop, come, leave)
        if left is not None and come <= left:
            raise NoRide("a coach comes to a call no later than it left the one ahead")
        left = leave


def check_rides(pauses, rides):
    for ride in rides:
        check_ride(pauses, ride)


def check_stop(pauses, stop):
    if not is_stop(pauses, stop):
        raise NoStop("there is no such stop")
