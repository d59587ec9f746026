"""What is known of each stream, and why."""

from tankbalance.places import OUTSIDE, brought_by, rise_of, way_over
from tankbalance.rings import others_without_meter, ring_of
from tankbalance.settle import refuse_clashes
from tankbalance.ties import bunches_of


def group_of(day, number):
    if day.metered(number):
        return ()
    stream = day.stream(number)
    # Where the other streams do not tie its two ends, these lie in two bunches; one of them is without the outside.
    for bunch in bunches_of(day.tanks, others_without_meter(day, number)):
        if OUTSIDE not in bunch and way_over(stream, bunch) != 0:
            return bunch
    return ()


def amount_left(day, number, group):
    # The stream itself has no reading, so it is not in what the readings bring.
    left = rise_of(day.rises, group) - brought_by(day.streams, day.readings, group)
    return way_over(day.stream(number), group) * left


def told_of(day, number):
    # Asked ahead of the clashes: an unknown stream is refused first.
    has_meter = day.metered(number)
    refuse_clashes(day)
    if has_meter:
        return ("metered", day.reading(number), (), ())
    group = group_of(day, number)
    if len(group) > 0:
        return ("known", amount_left(day, number, group), group, ())
    return ("open", None, (), ring_of(day, number))
