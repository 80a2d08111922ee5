"""How early one comes, how late one starts, with how few rides, and the choices."""

from ridebook.checks import check_ask
from ridebook.errors import NoWay
from ridebook.rides import turned
from ridebook.rounds import all_rounds, parts_needed


def first_coming(pauses, rides, start, goal, time):
    return all_rounds(pauses, rides, start, time)[-1][goal]


def last_start(pauses, backward, start, goal, time):
    come = first_coming(pauses, backward, goal, start, -time)
    return None if come is None else -come


def earliest(pauses, rides, start, goal, time):
    check_ask(pauses, rides, start, goal)
    return first_coming(pauses, rides, start, goal, time)


def latest(pauses, rides, start, goal, time):
    check_ask(pauses, rides, start, goal)
    return last_start(pauses, turned(rides), start, goal, time)


def fewest(pauses, rides, start, goal, time, end):
    check_ask(pauses, rides, start, goal)
    return parts_needed(all_rounds(pauses, rides, start, time), goal, end)


def choices(pauses, rides, start, goal, first, last):
    check_ask(pauses, rides, start, goal)
    if start == goal:
        raise NoWay("both stops are the same")
    backward = turned(rides)
    told = []
    come = first_coming(pauses, rides, start, goal, first)
    while come is not None:
        begin = last_start(pauses, backward, start, goal, come)
        if begin > last:
            return told
        told.append((begin, come))
        come = first_coming(pauses, rides, start, goal, begin + 1)
    return told
