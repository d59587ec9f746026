"""A cellar: its streams, meters and days come and go by deeds, and the last deed may be taken back."""

from tankbalance.days import Day
from tankbalance.doubt import doubts_of
from tankbalance.errors import (
    AlreadyMetered, BadTanks, NothingDone, NotMetered, OutOfRange, ReadingMissing, SamePlace, TooManyDays,
    TooManyDeeds, TooManyMeters, TooManyStreams, Twice, UnknownDay, UnknownPlace, UnknownStream, WrongRises,
)
from tankbalance.known import told_of
from tankbalance.lacking import lacking_of
from tankbalance.places import (
    MOST_AMOUNT, MOST_DAYS, MOST_DEEDS, MOST_METERS, MOST_STREAMS, MOST_TANKS, OUTSIDE,
)
from tankbalance.settle import clashes_of, setting_of
from tankbalance.standing import Standing


# The refusals of each deed are asked for in the order of point 24. Their words leave numbers out: these may have any
# size, and Python does not write out very long ones.


def refuse_places(tanks, places):
    if any([place < OUTSIDE or place > tanks for place in places]):
        raise UnknownPlace("a place is neither the outside nor one of the tanks")
    if places[0] == places[1]:
        raise SamePlace("a stream leads from one place to another one")


def refuse_numbers(standing, numbers):
    there = [stream[0] for stream in standing.streams]
    if any([number not in there for number in numbers]):
        raise UnknownStream("a stream that is named is not there")
    if len(set(numbers)) < len(numbers):
        raise Twice("a stream is named twice")


def refuse_unmetered(standing, numbers):
    if any([number not in standing.meters for number in numbers]):
        raise NotMetered("a stream that is named has no meter")


def refuse_amounts(amounts):
    if any([abs(amount) > MOST_AMOUNT for amount in amounts]):
        raise OutOfRange("a rise or a reading lies out of range")


class Cellar:
    def __init__(self, tanks):
        if tanks < 0 or tanks > MOST_TANKS:
            raise BadTanks("a cellar can't have that many tanks")
        self.tanks = tanks
        self.now = Standing(0, (), (), ())
        # Each deed that stands, with what stood ahead of it.
        self.history = []

    def keep_deed(self, deed, after):
        # Of all refusals of a deed this one comes last, so it is asked for here, for all kinds of deeds.
        if len(self.history) >= MOST_DEEDS:
            raise TooManyDeeds("no more deeds can be kept")
        self.history.append((deed, self.now))
        self.now = after

    def stream_comes(self, source, target):
        refuse_places(self.tanks, (source, target))
        if len(self.now.streams) >= MOST_STREAMS:
            raise TooManyStreams("no more streams can be there")
        self.keep_deed(("stream comes", source, target), self.now.with_stream(source, target))
        return self.now.came

    def stream_goes(self, number):
        refuse_numbers(self.now, (number,))
        self.keep_deed(("stream goes", number), self.now.without_stream(number))

    def meters_come(self, numbers):
        refuse_numbers(self.now, numbers)
        if any([number in self.now.meters for number in numbers]):
            raise AlreadyMetered("a stream that is named has a meter already")
        if len(self.now.meters) + len(numbers) > MOST_METERS:
            raise TooManyMeters("no more meters can be there")
        self.keep_deed(("meters come", tuple(numbers)), self.now.with_meters(numbers))

    def meters_go(self, numbers):
        refuse_numbers(self.now, numbers)
        refuse_unmetered(self.now, numbers)
        self.keep_deed(("meters go", tuple(numbers)), self.now.without_meters(numbers))

    def day_passes(self, rises, readings):
        if len(rises) != self.tanks:
            raise WrongRises("each tank has one rise")
        numbers = [pair[0] for pair in readings]
        refuse_numbers(self.now, numbers)
        refuse_unmetered(self.now, numbers)
        if any([meter not in numbers for meter in self.now.meters]):
            raise ReadingMissing("a stream that has a meter has no reading")
        refuse_amounts(rises)
        refuse_amounts([pair[1] for pair in readings])
        if len(self.now.passed) >= MOST_DAYS:
            raise TooManyDays("no more days can be kept")
        day = Day(self.tanks, self.now.streams, rises, readings)
        self.keep_deed(("day passes", tuple(rises), tuple(readings)), self.now.with_day(day))
        return self.days_gone()

    def take_back(self):
        if len(self.history) == 0:
            raise NothingDone("no deed stands")
        last = self.history.pop()
        self.now = last[1]
        return last[0]

    def layout(self):
        meters = self.now.meters
        return tuple([stream + (stream[0] in meters,) for stream in self.now.streams])

    def deeds(self):
        return tuple([kept[0] for kept in self.history])

    def days_gone(self):
        return len(self.now.passed)

    def day(self, number):
        if number < 1 or number > self.days_gone():
            raise UnknownDay("no day has that number")
        return self.now.passed[number - 1]

    def clashes(self, number):
        return clashes_of(self.day(number))

    def setting(self, number):
        return setting_of(self.day(number))

    def doubts(self, number):
        return doubts_of(self.day(number))

    def lacking(self, number):
        return lacking_of(self.day(number))

    def told(self, number, stream):
        return told_of(self.day(number), stream)
