"""A trip that comes at the earliest coming, with the fewest parts."""

from ridebook.checks import check_ask
from ridebook.errors import NoWay
from ridebook.rounds import all_rounds, first_on, parts_needed, ready_times


def part_into(rides, ready, stop, come):
    for number, ride in enumerate(rides):
        on = first_on(ride, ready)
        for off in range(on + 1, len(ride)):
            if ride[off][0] == stop and ride[off][1] == come:
                return (number, on, off)
    return None


def trip_back(pauses, rides, start, goal, told):
    # The coming is new in the last round told, so each part ahead of it is new in its own round.
    stop = goal
    come = told[-1][goal]
    parts = []
    for ahead in reversed(told[:-1]):
        part = part_into(rides, ready_times(pauses, start, ahead), stop, come)
        parts = [part] + parts
        stop = rides[part[0]][part[1]][0]
        come = ahead[stop]
    return parts


def trip_for(pauses, rides, start, goal, time):
    check_ask(pauses, rides, start, goal)
    told = all_rounds(pauses, rides, start, time)
    come = told[-1][goal]
    if come is None:
        raise NoWay("there is no trip")
    count = parts_needed(told, goal, come)
    return trip_back(pauses, rides, start, goal, told[:count + 1])
