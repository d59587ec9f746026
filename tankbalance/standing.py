"""What stands in a cellar between two deeds."""


class Standing:
    # It is never changed: each deed makes another one, so that a deed is taken back by the one ahead of it.
    def __init__(self, came, streams, meters, passed):
        self.came = came
        self.streams = streams
        self.meters = meters
        self.passed = passed

    def with_stream(self, source, target):
        # Streams that came are counted, not those that are there: no number comes again when its stream has gone.
        number = self.came + 1
        return Standing(number, self.streams + ((number, source, target),), self.meters, self.passed)

    def without_stream(self, number):
        streams = tuple([stream for stream in self.streams if stream[0] != number])
        meters = tuple([meter for meter in self.meters if meter != number])
        return Standing(self.came, streams, meters, self.passed)

    def with_meters(self, numbers):
        return Standing(self.came, self.streams, self.meters + tuple(numbers), self.passed)

    def without_meters(self, numbers):
        meters = tuple([meter for meter in self.meters if meter not in numbers])
        return Standing(self.came, self.streams, meters, self.passed)

    def with_day(self, day):
        return Standing(self.came, self.streams, self.meters, self.passed + (day,))
