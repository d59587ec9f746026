"""Which meters to doubt on a day that clashes."""

from tankbalance.places import OUTSIDE, rise_of
from tankbalance.settle import clashes_of
from tankbalance.ties import bunches_of, path_of


def shut_group_with_rise(day):
    # A group that no stream crosses is made of whole bunches: if it has a rise, one of them has.
    for bunch in bunches_of(day.tanks, day.streams):
        if OUTSIDE not in bunch and rise_of(day.rises, bunch) != 0:
            return bunch
    return ()


def ends_tied(day, number):
    stream = day.stream(number)
    return path_of(day.without_meter(), stream[1], stream[2]) is not None


def first_doubts(day, meters, size):
    # Doubting one meter joins two bunches at most, so it ends two clashes at most.
    if len(clashes_of(day)) > 2 * size:
        return None
    if size == 0:
        return ()
    # The meters rise, and the first way that works out is taken: so the least numbers come.
    for at, number in enumerate(meters):
        # Within one bunch a meter may read what it likes: doubting it changes no clash.
        if not ends_tied(day, number):
            further = first_doubts(day.doubting([number]), meters[at + 1:], size - 1)
            if further is not None:
                return (number,) + further
    return None


def doubts_of(day):
    shut = shut_group_with_rise(day)
    if len(shut) > 0:
        return ((), shut)
    meters = [pair[0] for pair in day.readings]
    size = 0
    doubts = first_doubts(day, meters, size)
    # This ends: with all meters doubted only a shut group could clash, and none of these has a rise.
    while doubts is None:
        size += 1
        doubts = first_doubts(day, meters, size)
    return (doubts, ())
