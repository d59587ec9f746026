"""Points 1, 6, 7 and 24, and the interface, tankbalance/days.py."""

import itertools
import unittest

from tankbalance.days import Day
from tankbalance.errors import CellarError, NotMetered, Twice, UnknownStream
from tests.helper import (
    answer_unchanged, asked_of, assert_refused, assert_told, drawn_parts, facts_of, in_all_forms, plain_without_meter,
)

STREAMS = ((4, 0, 1), (9, 1, 2), (17, 2, 1), (30, 3, 0), (60, 2, 3))
RISES = (5, -1000, 1000)
READINGS = ((4, 1000), (17, 0), (60, -1000))
METERED = (4, 17, 60)
UNMETERED = (9, 30)
# The last ones are longer than what Python writes out.
UNKNOWN = (0, -1, -4, 1, 5, 59, 61, 62, 1000, 2 ** 70, -(2 ** 70), 10 ** 5000, -(10 ** 5000))


def some_day():
    return Day(3, STREAMS, RISES, READINGS)


class MakingTest(unittest.TestCase):
    def assert_made(self, tanks, streams, rises, readings, expected):
        for rows in in_all_forms(streams, rises, readings):
            with self.subTest(rows=rows):
                day = answer_unchanged(self, Day, tanks, *rows)
                self.assertEqual(facts_of(day), expected)
                assert_told(self, facts_of(day))

    def test_rows_in_any_order_are_told_by_rising_numbers(self):
        expected = (3, STREAMS, RISES, READINGS)
        mixed = (STREAMS[2], STREAMS[0], STREAMS[4], STREAMS[1], STREAMS[3])
        for streams in (STREAMS, STREAMS[::-1], mixed):
            for readings in itertools.permutations(READINGS):
                self.assert_made(3, streams, RISES, readings, expected)

    def test_every_order_of_few_streams(self):
        for streams in itertools.permutations(STREAMS[:4]):
            self.assert_made(3, streams, RISES, (), (3, STREAMS[:4], RISES, ()))

    def test_numbers_set_the_order_not_places_or_amounts(self):
        streams = ((10, 0, 1), (9, 3, 2), (2, 2, 0), (1, 3, 0))
        readings = ((10, -5), (2, 3), (1, 1000))
        expected = (3, streams[::-1], (7, 1, 4), readings[::-1])
        self.assert_made(3, streams, (7, 1, 4), readings, expected)

    def test_rises_keep_their_order(self):
        self.assert_made(4, (), (3, -2, 1000, -1000), (), (4, (), (3, -2, 1000, -1000), ()))

    def test_nothing_there(self):
        self.assert_made(0, (), (), (), (0, (), (), ()))
        self.assert_made(2, (), (8, 9), (), (2, (), (8, 9), ()))
        self.assert_made(2, ((1, 2, 1),), (8, 9), (), (2, ((1, 2, 1),), (8, 9), ()))

    def test_a_day_of_no_tanks(self):
        day = Day(0, [], [], [])
        self.assertEqual(day.without_meter(), ())
        self.assertEqual(facts_of(day.doubting([])), (0, (), (), ()))
        for number in (0, 1, 60):
            assert_refused(self, UnknownStream, day.metered, number)
            assert_refused(self, UnknownStream, day.reading, number)
            assert_refused(self, UnknownStream, day.doubting, [number])

    def test_the_rows_may_change_later(self):
        for change in (list.clear, lambda row: row.insert(0, (1, 3, 1)), list.reverse):
            rows = [list(STREAMS), list(RISES), list(READINGS)]
            day = Day(3, *rows)
            doubted = day.doubting([4])
            for row in rows:
                change(row)
            self.assertEqual(facts_of(day), (3, STREAMS, RISES, READINGS))
            self.assertEqual(facts_of(doubted), (3, STREAMS, RISES, READINGS[1:]))
            self.assertEqual(day.without_meter(), (STREAMS[1], STREAMS[3]))
            self.assertEqual([day.reading(number) for number in METERED], [1000, 0, -1000])
            self.assertEqual([day.metered(stream[0]) for stream in STREAMS], [True, False, True, False, True])

    def test_two_days_are_apart(self):
        streams, rises, readings = list(STREAMS), list(RISES), list(READINGS)
        one = Day(3, streams, rises, readings)
        streams.pop()
        readings.pop()
        rises[0] = 77
        other = Day(3, streams, rises, readings)
        other.doubting([4, 17])
        self.assertIsNot(one, other)
        self.assertEqual(facts_of(one), (3, STREAMS, RISES, READINGS))
        self.assertEqual(facts_of(other), (3, STREAMS[:-1], (77, -1000, 1000), READINGS[:-1]))

    def test_somewhat_beyond_the_bounds_nothing_is_refused(self):
        streams = tuple((number, number % 9, 9) for number in range(70, 0, -5))
        readings = tuple((stream[0], 1001 * stream[0]) for stream in streams[:11])
        rises = (1001, -1001, 2 ** 80, 0, 0, 0, 0, 0, 5)
        self.assert_made(9, streams, rises, readings, (9, streams[::-1], rises, readings[::-1]))

    def test_every_drawn_day(self):
        for tanks, streams, rises, readings in drawn_parts():
            day = Day(tanks, list(streams), list(rises), list(readings))
            self.assertEqual(facts_of(day), (tanks, tuple(sorted(streams)), rises, tuple(sorted(readings))))
            assert_told(self, facts_of(day))


class AskingTest(unittest.TestCase):
    def test_metered(self):
        day = some_day()
        for number in METERED:
            self.assertIs(asked_of(self, Day.metered, day, number), True)
        for number in UNMETERED:
            self.assertIs(asked_of(self, Day.metered, day, number), False)

    def test_reading(self):
        day = some_day()
        for number, reading in READINGS:
            told = asked_of(self, Day.reading, day, number)
            self.assertEqual(told, reading)
            self.assertIs(type(told), int)

    def test_no_reading_without_meter(self):
        for number in UNMETERED:
            assert_refused(self, NotMetered, some_day().reading, number)

    def test_unknown_streams(self):
        day = some_day()
        for number in UNKNOWN:
            assert_refused(self, UnknownStream, day.metered, number)
            assert_refused(self, UnknownStream, day.reading, number)
        self.assertEqual(facts_of(day), (3, STREAMS, RISES, READINGS))

    def test_refusals_are_caught_by_their_bases(self):
        day = some_day()
        for base in (CellarError, ValueError):
            for asked, number in ((day.metered, 5), (day.reading, 5), (day.reading, 9), (day.doubting, [5])):
                with self.assertRaises(base):
                    asked(number)

    def test_without_meter(self):
        without = asked_of(self, Day.without_meter, some_day())
        self.assertEqual(without, ((9, 1, 2), (30, 3, 0)))
        assert_told(self, without)

    def test_without_meter_none_and_all(self):
        pairs = tuple((stream[0], 1) for stream in STREAMS)
        self.assertEqual(Day(3, STREAMS, RISES, pairs).without_meter(), ())
        self.assertEqual(Day(3, STREAMS[::-1], RISES, ()).without_meter(), STREAMS)
        self.assertEqual(Day(3, (), RISES, ()).without_meter(), ())

    def test_every_drawn_day(self):
        for parts in drawn_parts():
            day = Day(*parts)
            self.assertEqual(day.without_meter(), tuple(sorted(plain_without_meter(parts))))
            readings = dict(parts[3])
            numbers = [stream[0] for stream in parts[1]]
            for number in numbers:
                self.assertIs(day.metered(number), number in readings)
                if number in readings:
                    self.assertEqual(day.reading(number), readings[number])
                else:
                    assert_refused(self, NotMetered, day.reading, number)
            for number in set(range(-1, 63)) - set(numbers):
                assert_refused(self, UnknownStream, day.metered, number)
                assert_refused(self, UnknownStream, day.reading, number)


class DoubtingTest(unittest.TestCase):
    def assert_doubted(self, day, numbers, expected):
        for (row,) in in_all_forms(numbers):
            with self.subTest(row=row):
                doubted = answer_unchanged(self, lambda named: asked_of(self, Day.doubting, day, named), row)
                self.assertIs(type(doubted), Day)
                self.assertIsNot(doubted, day)
                self.assertEqual(facts_of(doubted), (day.tanks, day.streams, day.rises, expected))
                assert_told(self, facts_of(doubted))

    def assert_doubt_refused(self, refusal, numbers):
        day = some_day()
        for (row,) in in_all_forms(numbers):
            answer_unchanged(self, lambda named: assert_refused(self, refusal, day.doubting, named), row)
        self.assertEqual(facts_of(day), (3, STREAMS, RISES, READINGS))

    def test_none_some_and_all_in_any_order(self):
        for size in range(4):
            for numbers in itertools.permutations(METERED, size):
                expected = tuple(pair for pair in READINGS if pair[0] not in numbers)
                self.assert_doubted(some_day(), numbers, expected)

    def test_the_streams_named_have_no_meter(self):
        doubted = some_day().doubting([60, 4])
        self.assertEqual([doubted.metered(stream[0]) for stream in STREAMS], [False, False, True, False, False])
        self.assertEqual(doubted.without_meter(), (STREAMS[0], STREAMS[1], STREAMS[3], STREAMS[4]))
        self.assertEqual(doubted.reading(17), 0)
        assert_refused(self, NotMetered, doubted.reading, 60)

    def test_doubting_again(self):
        doubted = some_day().doubting([4])
        assert_refused(self, NotMetered, doubted.doubting, [4])
        self.assertEqual(facts_of(doubted.doubting([60])), (3, STREAMS, RISES, ((17, 0),)))
        self.assertEqual(facts_of(doubted), (3, STREAMS, RISES, READINGS[1:]))

    def test_the_row_may_change_later(self):
        named = [17]
        doubted = some_day().doubting(named)
        named.append(4)
        self.assertEqual(doubted.readings, (READINGS[0], READINGS[2]))
        named.clear()
        self.assertEqual(doubted.readings, (READINGS[0], READINGS[2]))

    def test_unknown_streams(self):
        for number in UNKNOWN:
            self.assert_doubt_refused(UnknownStream, (number,))
            self.assert_doubt_refused(UnknownStream, (4, 60, number))

    def test_twice(self):
        for numbers in ((4, 4), (60, 4, 60), (17, 17, 17), (4, 17, 60, 4)):
            self.assert_doubt_refused(Twice, numbers)

    def test_not_metered(self):
        for numbers in ((9,), (30, 9), (4, 30, 60)):
            self.assert_doubt_refused(NotMetered, numbers)

    def assert_each_order_refused(self, refusal, numbers):
        for order in set(itertools.permutations(numbers)):
            self.assert_doubt_refused(refusal, order)

    def test_unknown_ahead_of_twice(self):
        self.assert_each_order_refused(UnknownStream, (4, 4, 5))
        self.assert_each_order_refused(UnknownStream, (5, 5))
        self.assert_each_order_refused(UnknownStream, (61, 61, 4))

    def test_unknown_ahead_of_not_metered(self):
        self.assert_each_order_refused(UnknownStream, (9, 5))
        self.assert_each_order_refused(UnknownStream, (9, 0, 4))

    def test_twice_ahead_of_not_metered(self):
        self.assert_each_order_refused(Twice, (4, 4, 9))
        self.assert_each_order_refused(Twice, (9, 9))
        self.assert_each_order_refused(Twice, (9, 30, 30, 4))

    def test_all_three_at_once(self):
        self.assert_each_order_refused(UnknownStream, (4, 4, 9, 5))
        self.assert_each_order_refused(UnknownStream, (9, 9, -1))

    def test_a_row_of_a_hundred(self):
        self.assert_doubt_refused(Twice, (4,) * 100)
        self.assert_doubt_refused(UnknownStream, (4,) * 50 + (9,) * 49 + (61,))

    def test_every_drawn_day(self):
        for at, (tanks, streams, rises, readings) in enumerate(drawn_parts()):
            day = Day(tanks, streams, rises, readings)
            named = [number for place, (number, reading) in enumerate(readings) if at >> place & 1]
            doubted = asked_of(self, Day.doubting, day, named)
            kept = tuple(sorted(pair for pair in readings if pair[0] not in named))
            self.assertEqual(facts_of(doubted), (tanks, tuple(sorted(streams)), rises, kept))


if __name__ == "__main__":
    unittest.main()
