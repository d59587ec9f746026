"""Places, the bounds of a cellar, and what streams bring to a group of tanks."""

OUTSIDE = 0
MOST_TANKS = 7
MOST_STREAMS = 12
MOST_METERS = 10
MOST_AMOUNT = 1000
MOST_DAYS = 12
MOST_DEEDS = 60


def way_over(stream, group):
    source_within = stream[1] in group
    target_within = stream[2] in group
    if source_within == target_within:
        return 0
    return 1 if target_within else -1


def crossing_of(streams, group):
    return tuple([stream for stream in streams if way_over(stream, group) != 0])


def brought_by(streams, amounts, group):
    amount_by_number = dict(amounts)
    return sum([way_over(stream, group) * amount_by_number.get(stream[0], 0) for stream in streams])


def rise_of(rises, group):
    # Tanks are numbered from 1, rows from 0.
    return sum([rises[tank - 1] for tank in group])
