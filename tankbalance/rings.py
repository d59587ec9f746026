"""Rings of streams without meter: along them amounts may be added unseen."""

from tankbalance.ties import path_of


def others_without_meter(day, number):
    return tuple([stream for stream in day.without_meter() if stream[0] != number])


def ring_of(day, number):
    if day.metered(number):
        return ()
    stream = day.stream(number)
    way_back = path_of(others_without_meter(day, number), stream[2], stream[1])
    if way_back is None:
        return ()
    return ((number, 1),) + way_back
