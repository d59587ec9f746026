"""Points 14, 7 and 9, and the interface, tankbalance/doubt.py."""

import itertools
import random
import unittest

from tankbalance.days import Day
from tankbalance.doubt import doubts_of
from tests.helper import asked_of, assert_doubts, assert_told, many_days, plain_clashes, plain_doubts, settled_rises


def lying_parts():
    """Days that were settled, and then some of the meters read wrong: none to all of up to 10 meters."""
    chance = random.Random(14)
    for tanks in range(1, 8):
        for meters in range(11):
            for lies in range(meters + 1):
                numbers = chance.sample(range(1, 61), meters + chance.randint(0, 2))
                streams = tuple((number, *chance.sample(range(tanks + 1), 2)) for number in numbers)
                amounts = {number: chance.randint(-80, 80) for number in numbers}
                readings = {number: amounts[number] for number in numbers[:meters]}
                for number in chance.sample(numbers[:meters], lies):
                    # Few unlike lies, so that some of them cancel.
                    readings[number] += chance.choice((-7, 7, 14, 100))
                yield (tanks, streams, settled_rises(tanks, streams, amounts), tuple(readings.items()))


def doubts_by_trying(parts):
    """The words of point 14 as they stand: every set of meters, the least ones first, till nothing clashes."""
    tanks, streams, rises, readings = parts
    for size in range(len(readings) + 1):
        for chosen in itertools.combinations(sorted(dict(readings)), size):
            kept = tuple(pair for pair in readings if pair[0] not in chosen)
            if plain_clashes((tanks, streams, rises, kept)) == ():
                return chosen
    return None


class DoubtTest(unittest.TestCase):
    def assert_doubted(self, parts, *right):
        tanks, streams, rises, readings = parts
        for turned in (streams, streams[::-1]):
            for read in (readings, readings[::-1]):
                told = asked_of(self, doubts_of, Day(tanks, list(turned), list(rises), list(read)))
                self.assertIn(told, right)
                assert_told(self, told)
                assert_doubts(self, parts, told)

    def test_nothing_there(self):
        self.assert_doubted((0, (), (), ()), ((), ()))
        self.assert_doubted((3, (), (0, 0, 0), ()), ((), ()))

    def test_days_without_a_clash(self):
        streams = ((1, 0, 1), (2, 1, 2), (3, 2, 0))
        self.assert_doubted((2, streams, (18, 5), ()), ((), ()))
        self.assert_doubted((2, streams, (18, 5), ((1, 30), (2, 12))), ((), ()))
        self.assert_doubted((2, streams, (18, 5), ((1, 30), (2, 12), (3, 7))), ((), ()))

    def test_one_lying_meter(self):
        self.assert_doubted((1, ((5, 0, 1),), (4,), ((5, 3),)), ((5,), ()))
        streams = ((1, 0, 1), (2, 1, 2), (3, 2, 0))
        # With 2 the two tanks agree again; 1 or 3 alone mends one of them.
        self.assert_doubted((2, streams, (18, 5), ((1, 30), (2, 13), (3, 7))), ((2,), ()))
        self.assert_doubted((2, streams, (18, 5), ((1, 31), (2, 12), (3, 7))), ((1,), ()))
        self.assert_doubted((2, streams, (18, 5), ((1, 30), (2, 12), (3, 8))), ((3,), ()))

    def test_several_lying_meters(self):
        streams = ((1, 0, 1), (2, 0, 2), (3, 3, 0))
        self.assert_doubted((3, streams, (1, 2, -3), ((1, 0), (2, 0), (3, 3))), ((1, 2), ()))
        self.assert_doubted((3, streams, (1, 2, -3), ((1, 1), (2, 0), (3, 0))), ((2, 3), ()))
        self.assert_doubted((3, streams, (1, 2, -3), ((1, 0), (2, 0), (3, 0))), ((1, 2, 3), ()))

    def test_one_meter_for_two_clashes(self):
        streams = ((4, 0, 1), (5, 0, 2), (6, 2, 1))
        self.assert_doubted((2, streams, (1, -1), ((4, 0), (5, 0), (6, 0))), ((6,), ()))
        self.assert_doubted((2, streams, (1, 1), ((4, 0), (5, 0), (6, 0))), ((4, 5), ()))

    def test_the_least_first_number(self):
        fan = tuple((number, 0, 1) for number in (9, 3, 60, 12))
        self.assert_doubted((1, fan, (1,), tuple((stream[0], 0) for stream in fan)), ((3,), ()))
        self.assert_doubted((1, fan, (1,), ((9, 0), (60, 0), (12, 0))), ((), ()))

    def test_the_least_second_number(self):
        streams = ((1, 0, 1), (2, 0, 1), (3, 0, 2), (4, 0, 2))
        self.assert_doubted((2, streams, (1, 1), tuple((number, 0) for number in (4, 3, 2, 1))), ((1, 3), ()))
        streams = ((1, 0, 2), (2, 0, 3), (3, 0, 3), (4, 0, 2), (5, 0, 1))
        self.assert_doubted((3, streams, (1, 1, 1), tuple((number, 0) for number in range(1, 6))), ((1, 2, 5), ()))

    def test_least_numbers_where_the_order_of_places_says_otherwise(self):
        # 1 and 2 would do as well as 1 and 3 if 2 did not lie between tanks that 1 ties already.
        streams = ((1, 1, 2), (2, 2, 1), (3, 0, 2))
        self.assert_doubted((2, streams, (5, 6), ((1, 0), (2, 0), (3, 0))), ((1, 3), ()))
        self.assert_doubted((2, streams, (-6, 6), ((1, 0), (2, 0), (3, 0))), ((1,), ()))

    def test_fewest_ahead_of_least(self):
        streams = ((1, 0, 1), (2, 0, 2), (9, 1, 2))
        self.assert_doubted((2, streams, (-4, 4), ((1, 0), (2, 0), (9, 0))), ((9,), ()))

    def test_beside_streams_without_meter(self):
        streams = ((1, 0, 1), (2, 1, 2), (3, 2, 3), (4, 3, 0))
        self.assert_doubted((3, streams, (1, 1, 1), ((1, 0), (4, 0))), ((1,), ()))
        self.assert_doubted((3, streams, (1, 1, 1), ((2, 0), (4, 9))), ((2,), ()))
        self.assert_doubted((3, streams, (1, 1, 1), ((3, 0), (4, 9))), ((3,), ()))
        self.assert_doubted((3, streams, (1, 1, 1), ((2, 500),)), ((), ()))

    def test_a_meter_within_a_bunch_is_not_doubted(self):
        streams = ((1, 1, 2), (2, 1, 2), (3, 0, 2))
        self.assert_doubted((2, streams, (7, 8), ((1, 999), (3, 14))), ((3,), ()))
        self.assert_doubted((2, streams, (7, 8), ((1, 999), (3, 15))), ((), ()))

    def test_a_tank_without_streams(self):
        self.assert_doubted((1, (), (1,), ()), ((), (1,)))
        self.assert_doubted((1, (), (-1000,), ()), ((), (1,)))
        self.assert_doubted((2, (), (0, 3), ()), ((), (2,)), ((), (1, 2)))
        self.assert_doubted((2, (), (4, 3), ()), ((), (1,)), ((), (2,)), ((), (1, 2)))
        # Together the two have no rise, so they are no answer.
        self.assert_doubted((2, (), (4, -4), ()), ((), (1,)), ((), (2,)))

    def test_tanks_that_only_streams_among_them_join(self):
        streams = ((1, 0, 1), (2, 2, 3))
        for readings in ((), ((2, 5),), ((1, 4), (2, 5)), ((1, 9), (2, 9))):
            # No doubting helps, whatever the other meters say.
            self.assert_doubted((3, streams, (4, -5, 6), readings), ((), (2, 3)))
        self.assert_doubted((3, streams, (4, -5, 5), ((2, 5),)), ((), ()))
        self.assert_doubted((3, streams, (4, -5, 5), ((2, 4),)), ((2,), ()))
        self.assert_doubted((3, streams, (4, -5, 5), ((1, 3), (2, 4))), ((1, 2), ()))

    def test_a_stream_with_a_meter_crosses_too(self):
        self.assert_doubted((2, ((1, 0, 1), (2, 1, 2)), (4, 6), ((1, 0), (2, 0))), ((1, 2), ()))
        self.assert_doubted((2, ((1, 0, 1), (2, 1, 2)), (4, 6), ((1, 0),)), ((1,), ()))

    def test_meters_in_a_row_of_tanks_each_reading_wrong(self):
        chain = tuple((number, number - 1, number) for number in range(1, 8))
        for size in range(1, 8):
            streams = chain[:size]
            readings = tuple((number, 100 * number) for number in range(1, size + 1))
            self.assert_doubted((size, streams, (1,) * size, readings), (tuple(range(1, size + 1)), ()))
        closed = chain + ((8, 7, 0), (9, 0, 1), (10, 6, 7))
        readings = tuple((number, 7 ** (number % 4)) for number in range(1, 11))
        self.assert_doubted((7, closed, (1000, -999, 998, -997, 996, -995, 994), readings), ((1, 2, 3, 4, 5, 6, 7), ()))
        back = tuple((11 - number, target, source) for number, source, target in closed)
        self.assert_doubted((7, back, (1000, -999, 998, -997, 996, -995, 994), readings), ((1, 2, 3, 5, 6, 7, 8), ()))

    def test_every_size_of_row_and_of_answer(self):
        chance = random.Random(7)
        for tanks in range(1, 8):
            for meters in range(1, 11):
                joins = [(at % (tanks + 1), (at + 1) % (tanks + 1)) for at in range(meters)]
                streams = tuple((60 - 3 * at, *join) for at, join in enumerate(joins))
                readings = tuple((stream[0], chance.randint(-1000, 1000)) for stream in streams)
                rises = tuple(chance.randint(-1000, 1000) for tank in range(tanks))
                parts = (tanks, streams, rises, readings)
                assert_doubts(self, parts, asked_of(self, doubts_of, Day(*parts)))

    def test_the_day_stays_and_the_doubted_one_does_not_clash(self):
        for parts in lying_parts():
            day = Day(*parts)
            meters, group = asked_of(self, doubts_of, day)
            if group == ():
                doubted = day.doubting(meters)
                self.assertEqual(plain_clashes((day.tanks, day.streams, day.rises, doubted.readings)), ())

    def test_asked_again(self):
        for parts in itertools.islice(lying_parts(), 0, None, 9):
            day = Day(*parts)
            self.assertEqual(doubts_of(day), doubts_of(day))
            self.assertEqual(doubts_of(day), doubts_of(Day(*parts)))

    def test_lying_days(self):
        sizes = set()
        for parts in lying_parts():
            told = asked_of(self, doubts_of, Day(*parts))
            assert_doubts(self, parts, told)
            sizes.add(len(told[0]))
        self.assertTrue(sizes >= set(range(6)))

    def test_many_days(self):
        shut = 0
        for parts, day in many_days():
            assert_doubts(self, parts, asked_of(self, doubts_of, day))
            shut += plain_doubts(parts) is None
        self.assertGreater(shut, 500)

    def test_going_through_all_sets(self):
        for parts in itertools.chain(
            itertools.islice(lying_parts(), 0, None, 3),
            itertools.islice((parts for parts, day in many_days()), 0, None, 7),
        ):
            right = doubts_by_trying(parts)
            meters, group = doubts_of(Day(*parts))
            if right is None:
                self.assertEqual(meters, ())
                self.assertNotEqual(group, ())
            else:
                self.assertEqual((meters, group), (right, ()))

    def test_somewhat_beyond_the_bounds(self):
        streams = tuple((number, number % 9, (number + 1) % 9) for number in range(61, 75))
        readings = tuple((stream[0], 2000 + stream[0]) for stream in streams[:12])
        parts = (8, streams, (1001, -5000, 2 ** 80, 0, 0, 7, 7, 7), readings)
        assert_doubts(self, parts, asked_of(self, doubts_of, Day(*parts)))


if __name__ == "__main__":
    unittest.main()
