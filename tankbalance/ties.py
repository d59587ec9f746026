"""Which places some streams tie, and the ways between them."""

from tankbalance.places import OUTSIDE


def steps_from(streams, place):
    steps = []
    for number, source, target in streams:
        if source == place:
            steps.append((number, 1, target))
        elif target == place:
            steps.append((number, -1, source))
    return steps


def arrivals_from(streams, start):
    # Each place keeps only the step by which it was first reached, so that
    # going back from any of them to the start passes no place twice.
    arrivals = {start: None}
    waiting = [start]
    while len(waiting) > 0:
        place = waiting.pop(0)
        for number, direction, end in steps_from(streams, place):
            if end not in arrivals:
                arrivals[end] = (place, (number, direction))
                waiting.append(end)
    return arrivals


def bunches_of(tanks, streams):
    bunches = []
    placed = {}
    # Places come by rising numbers, so each bunch is found at its least place.
    for place in [OUTSIDE] + list(range(1, tanks + 1)):
        if place not in placed:
            bunch = sorted(arrivals_from(streams, place))
            bunches.append(tuple(bunch))
            for member in bunch:
                placed[member] = True
    return tuple(bunches)


def path_of(streams, start, goal):
    arrivals = arrivals_from(streams, start)
    if goal not in arrivals:
        return None
    steps = []
    place = goal
    while place != start:
        arrival = arrivals[place]
        steps.append(arrival[1])
        place = arrival[0]
    return tuple(reversed(steps))
