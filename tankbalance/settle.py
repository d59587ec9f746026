"""Groups of tanks whose meters can't be right, and amounts that agree with all that was measured."""

from tankbalance.errors import Clashing
from tankbalance.places import OUTSIDE, brought_by, rise_of
from tankbalance.ties import bunches_of, path_of


def clashes_of(day):
    clashes = []
    for bunch in bunches_of(day.tanks, day.without_meter()):
        if OUTSIDE not in bunch:
            rise = rise_of(day.rises, bunch)
            brought = brought_by(day.streams, day.readings, bunch)
            if rise != brought:
                clashes.append((bunch, rise, brought))
    return tuple(clashes)


def refuse_clashes(day):
    if len(clashes_of(day)) > 0:
        raise Clashing("the readings of this day clash")


def lack_of(day, tank):
    return rise_of(day.rises, (tank,)) - brought_by(day.streams, day.readings, (tank,))


def setting_of(day):
    refuse_clashes(day)
    amounts = dict([(stream[0], 0) for stream in day.streams])
    amounts.update(dict(day.readings))
    unmetered = day.without_meter()
    for bunch in bunches_of(day.tanks, unmetered):
        # Each other place gets what it lacks from the first. That is the outside, which needs no balance, or a tank,
        # which comes out right by itself: without a clash a bunch of tanks as a whole lacks nothing.
        for tank in bunch[1:]:
            lack = lack_of(day, tank)
            for number, direction in path_of(unmetered, bunch[0], tank):
                amounts[number] += direction * lack
    return tuple(sorted(amounts.items()))
