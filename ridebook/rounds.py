"""The earliest comings with at most none, one, two and so on parts."""

from ridebook.checks import check_rides, check_stop


def ready_time(pauses, start, stop, come):
    if come is None:
        return None
    # Coming back to the start is never earlier than being there, so nobody changes there.
    return come if stop == start else come + pauses[stop]


def ready_times(pauses, start, comings):
    return [ready_time(pauses, start, stop, come) for stop, come in enumerate(comings)]


def first_on(ride, ready):
    # Who gets on here can get off at each later call, so no later call to get on gives more.
    for number, call in enumerate(ride):
        if ready[call[0]] is not None and ready[call[0]] <= call[2]:
            return number
    # Behind the last call: there is none to get off at.
    return len(ride)


def next_round(pauses, rides, start, ahead):
    ready = ready_times(pauses, start, ahead)
    # Ready times stay those of the round ahead, or two parts would count as one.
    comings = list(ahead)
    for ride in rides:
        for stop, come, leave in ride[first_on(ride, ready) + 1:]:
            if comings[stop] is None or come < comings[stop]:
                comings[stop] = come
    return comings


def all_rounds(pauses, rides, start, time):
    comings = [time if stop == start else None for stop in range(len(pauses))]
    told = [comings]
    further = next_round(pauses, rides, start, comings)
    while further != comings:
        told.append(further)
        comings = further
        further = next_round(pauses, rides, start, comings)
    return told


def parts_needed(told, goal, end):
    for number, comings in enumerate(told):
        if comings[goal] is not None and comings[goal] <= end:
            return number
    return None


def rounds(pauses, rides, start, time):
    check_rides(pauses, rides)
    check_stop(pauses, start)
    return all_rounds(pauses, rides, start, time)
