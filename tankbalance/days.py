"""A day: how its tanks rose, and what the meters on some of its streams read."""

from tankbalance.errors import NotMetered, Twice, UnknownStream


class Day:
    def __init__(self, tanks, streams, rises, readings):
        self.tanks = tanks
        # No two begin with the same number, so the numbers alone set the order.
        self.streams = tuple(sorted(streams))
        self.rises = tuple(rises)
        self.readings = tuple(sorted(readings))

    def stream(self, number):
        for stream in self.streams:
            if stream[0] == number:
                return stream
        # The words leave the number out: it may have any size, and Python does not write out a very long one.
        raise UnknownStream("no stream of this day has that number")

    def metered(self, number):
        stream = self.stream(number)
        return stream[0] in dict(self.readings)

    def reading(self, number):
        if not self.metered(number):
            raise NotMetered("the stream has no meter on this day")
        return dict(self.readings)[number]

    def without_meter(self):
        return tuple([stream for stream in self.streams if not self.metered(stream[0])])

    def doubting(self, numbers):
        # All are asked first, so that an unknown stream is refused ahead of all else.
        meters_there = [self.metered(number) for number in numbers]
        if len(set(numbers)) < len(numbers):
            raise Twice("a stream is named twice")
        if not all(meters_there):
            raise NotMetered("a stream that is named has no meter on this day")
        kept = [pair for pair in self.readings if pair[0] not in numbers]
        return Day(self.tanks, self.streams, self.rises, kept)
