"""Where meters are lacking."""

from tankbalance.ties import path_of


def lacking_of(day):
    lacking = []
    kept = []
    for stream in day.without_meter():
        # Each stream kept joins two bunches, so the kept ones have no ring, and each of them has a group.
        if path_of(kept, stream[1], stream[2]) is None:
            kept.append(stream)
        else:
            lacking.append(stream[0])
    return tuple(lacking)
