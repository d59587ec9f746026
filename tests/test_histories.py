"""Long histories of deeds, held after each of them against a plain record (points 1 and 16 to 24)."""

import random
import unittest

from tankbalance.cellar import Cellar
from tankbalance.errors import (
    AlreadyMetered, NothingDone, NotMetered, OutOfRange, ReadingMissing, SamePlace, TooManyDays, TooManyDeeds,
    TooManyMeters, TooManyStreams, Twice, UnknownPlace, UnknownStream, WrongRises,
)
from tests.helper import (
    Record, assert_cellar, assert_day_questions, assert_done, assert_no_such_days, assert_refused, do, first_of,
    settled_rises, view_of,
)

KINDS = ("stream comes", "stream goes", "meters come", "meters go", "day passes")


def drawn_numbers(chance, good, others):
    """Some of the good numbers, in any order; now and then with others among them, or one of them twice."""
    numbers = chance.sample(good, chance.randint(0, min(len(good), chance.choice((1, 3, 12)))))
    while chance.random() < 0.12:
        numbers.insert(chance.randint(0, len(numbers)), chance.choice(others))
    if numbers and chance.random() < 0.08:
        numbers.insert(chance.randint(0, len(numbers)), chance.choice(numbers))
    return tuple(numbers)


def drawn_day(chance, record, others):
    """A day that is right, settled or not, or has one or several faults."""
    came, streams, metered, days = record.state()
    amounts = {number: chance.randint(-80, 80) for number in streams}
    rises = list(settled_rises(record.tanks, tuple(streams.values()), amounts))
    readings = [(number, amounts[number]) for number in metered]
    chance.shuffle(readings)
    while chance.random() < 0.4 and readings:
        at = chance.randrange(len(readings))
        readings[at] = (readings[at][0], chance.choice((-1000, -1, 0, 1, 1000)))
    while chance.random() < 0.15 and readings:
        readings.pop(chance.randrange(len(readings)))
    while chance.random() < 0.15:
        readings.insert(chance.randint(0, len(readings)), (chance.choice(others), chance.randint(-9, 9)))
    while chance.random() < 0.1 and rises:
        rises[chance.randrange(len(rises))] = chance.choice((-1001, -1000, 1000, 1001))
    while chance.random() < 0.05:
        rises.append(0)
    return ("day passes", tuple(rises), tuple(readings))


def drawn_deed(chance, record, weights):
    came, streams, metered, days = record.state()
    others = [*range(-1, came + 3), *streams, *streams]
    kind = chance.choices(KINDS, weights)[0]
    if kind == "stream comes":
        places = range(-1, record.tanks + 2) if chance.random() < 0.2 else range(record.tanks + 1)
        return (kind, chance.choice(places), chance.choice(places))
    if kind == "stream goes":
        return (kind, chance.choice(others))
    if kind == "meters come":
        return (kind, drawn_numbers(chance, sorted(set(streams) - metered), others))
    if kind == "meters go":
        return (kind, drawn_numbers(chance, sorted(metered), others))
    return drawn_day(chance, record, others)


def listed(chance, deed):
    """The deed with its rows as lists or tuples, as chance has it."""
    return tuple(list(part) if type(part) is tuple and chance.random() < 0.5 else part for part in deed)


class HistoriesTest(unittest.TestCase):
    def take_back(self, cellar, record):
        if record.deeds:
            self.assertEqual(cellar.take_back(), record.deeds.pop())
        else:
            assert_refused(self, NothingDone, cellar.take_back)
        assert_cellar(self, cellar, record)

    def assert_some_day(self, chance, cellar, record):
        days = record.told()[4]
        if days:
            number = chance.randint(1, len(days))
            assert_day_questions(self, cellar, number, days[number - 1])

    def histories(self, seed, count, length, weights, backs):
        """Each history with its cellar, its record and the refusals that came."""
        chance = random.Random(seed)
        for at in range(count):
            tanks = at % 8
            cellar, record, refused = Cellar(tanks), Record(tanks), set()
            for step in range(length):
                if chance.random() < backs:
                    for again in range(chance.choice((1, 1, 2, 5))):
                        self.take_back(cellar, record)
                else:
                    refused |= assert_done(self, cellar, record, drawn_deed(chance, record, weights))
                if step % 10 == 9:
                    self.assert_some_day(chance, cellar, record)
            yield cellar, record, refused

    def assert_same_anew(self, cellar, record):
        """The deeds that stand lead to the same in another new cellar, and it shares nothing with the first."""
        before = view_of(cellar)
        other = Cellar(cellar.tanks)
        for deed in cellar.deeds():
            do(other, deed)
        self.assertEqual(view_of(other), before)
        for number, parts in enumerate(before[4], start=1):
            assert_day_questions(self, other, number, parts)
            self.assertEqual(other.clashes(number), cellar.clashes(number))
            self.assertEqual(other.doubts(number)[0], cellar.doubts(number)[0])
        while other.deeds():
            other.take_back()
        self.assertEqual(view_of(other), view_of(Cellar(cellar.tanks)))
        assert_cellar(self, cellar, record)

    def test_mixed_histories(self):
        seen = set()
        for cellar, record, refused in self.histories(1, 40, 160, (5, 2, 4, 2, 3), 0.08):
            seen |= refused
            self.assert_same_anew(cellar, record)
            assert_no_such_days(self, cellar)
            for number, parts in enumerate(record.told()[4], start=1):
                assert_day_questions(self, cellar, number, parts)
        self.assertTrue(seen >= {
            UnknownPlace, SamePlace, WrongRises, UnknownStream, Twice, AlreadyMetered, NotMetered, ReadingMissing,
            OutOfRange, TooManyDeeds,
        })

    def test_histories_with_many_streams_meters_and_days(self):
        seen = set()
        for cellar, record, refused in self.histories(2, 24, 130, (9, 1, 5, 1, 5), 0.03):
            seen |= refused
            self.assert_same_anew(cellar, record)
        self.assertTrue(seen >= {TooManyStreams, TooManyMeters, TooManyDays, TooManyDeeds})

    def test_histories_that_are_taken_back_whole(self):
        for cellar, record, refused in self.histories(3, 16, 80, (4, 2, 4, 2, 2), 0.1):
            while record.deeds:
                self.take_back(cellar, record)
            self.take_back(cellar, record)
            self.assertEqual(view_of(cellar), view_of(Cellar(cellar.tanks)))

    def test_many_takings_back(self):
        for cellar, record, refused in self.histories(4, 16, 120, (4, 3, 4, 3, 3), 0.4):
            assert_cellar(self, cellar, record)

    def test_two_cellars_side_by_side(self):
        chance = random.Random(5)
        for tanks in range(8):
            pair = [(Cellar(tanks), Record(tanks)), (Cellar(tanks), Record(tanks))]
            for step in range(120):
                cellar, record = pair[chance.randrange(2)]
                if chance.random() < 0.2:
                    self.take_back(cellar, record)
                else:
                    assert_done(self, cellar, record, drawn_deed(chance, record, (5, 2, 4, 2, 3)))
                for each in pair:
                    assert_cellar(self, *each)

    def test_rows_that_change_behind_each_deed(self):
        chance = random.Random(6)
        for tanks in range(8):
            cellar, record = Cellar(tanks), Record(tanks)
            for step in range(100):
                deed = drawn_deed(chance, record, (5, 2, 4, 2, 3))
                handed = listed(chance, deed)
                if record.due(deed):
                    assert_refused(self, first_of(record.due(deed)), do, cellar, handed)
                else:
                    do(cellar, handed)
                    record.deeds.append(deed)
                for row in [part for part in handed if type(part) is list]:
                    if chance.random() < 0.5:
                        row.clear()
                    else:
                        row.insert(0, row[0] if row else 1)
                assert_cellar(self, cellar, record)
            for number, parts in enumerate(record.told()[4], start=1):
                assert_day_questions(self, cellar, number, parts)


if __name__ == "__main__":
    unittest.main()
