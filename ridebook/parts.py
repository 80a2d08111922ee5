"""When given parts come, where they are a trip."""

from ridebook.checks import check_ask


def is_part(rides, ride, on, off):
    # An index below nought would count from the end, so both ends are asked for.
    return 0 <= ride < len(rides) and 0 <= on < off < len(rides[ride])


def can_leave(call, stop, ready):
    return call[0] == stop and call[2] >= ready


def coming_of(pauses, rides, start, goal, time, parts):
    check_ask(pauses, rides, start, goal)
    stop = start
    come = time
    # Kept apart from `come`: the pause holds for changes, not for the first part or the last coming.
    ready = time
    for ride, on, off in parts:
        if not is_part(rides, ride, on, off) or not can_leave(rides[ride][on], stop, ready):
            return None
        stop = rides[ride][off][0]
        come = rides[ride][off][1]
        ready = come + pauses[stop]
    return come if stop == goal else None
