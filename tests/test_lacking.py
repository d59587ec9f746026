"""Points 15, 4 and 11, and the interface, tankbalance/lacking.py."""

import itertools
import unittest

from tankbalance.days import Day
from tankbalance.known import group_of
from tankbalance.lacking import lacking_of
from tests.helper import (
    asked_of, assert_lacking, assert_told, many_days, plain_clashes, plain_groups, plain_without_meter, small_nets,
)


def fewest_by_trying(parts):
    """How many meters it takes till each stream has a meter or a group, by going through all sets of streams."""
    tanks, streams, rises, readings = parts
    numbers = [stream[0] for stream in plain_without_meter(parts)]
    for size in range(len(numbers) + 1):
        for chosen in itertools.combinations(numbers, size):
            metered = readings + tuple((number, 0) for number in chosen)
            if all(plain_groups((tanks, streams, rises, metered)).values()):
                return size
    return None


class LackingTest(unittest.TestCase):
    def assert_one_of(self, parts, *right):
        tanks, streams, rises, readings = parts
        for turned in (streams, streams[::-1]):
            told = asked_of(self, lacking_of, Day(tanks, list(turned), list(rises), list(readings)))
            self.assertIn(told, right)
            assert_told(self, told)
            assert_lacking(self, parts, told)

    def test_nothing_there(self):
        self.assert_one_of((0, (), (), ()), ())
        self.assert_one_of((3, (), (0, 0, 0), ()), ())

    def test_all_metered(self):
        streams = ((1, 0, 1), (2, 1, 0), (3, 0, 1))
        self.assert_one_of((1, streams, (0,), ((1, 0), (2, 0), (3, 0))), ())

    def test_no_ring(self):
        self.assert_one_of((1, ((5, 0, 1),), (3,), ()), ())
        self.assert_one_of((4, ((5, 0, 1), (6, 2, 1), (7, 2, 3)), (3, 0, 0, 0), ()), ())

    def test_streams_between_the_same_two_places(self):
        self.assert_one_of((1, ((5, 0, 1), (6, 0, 1)), (3,), ()), (5,), (6,))
        self.assert_one_of((1, ((5, 0, 1), (6, 1, 0), (9, 0, 1)), (3,), ()), (5, 6), (5, 9), (6, 9))
        self.assert_one_of((2, ((5, 1, 2), (6, 1, 2)), (3, -3), ()), (5,), (6,))

    def test_a_ring_of_three(self):
        streams = ((1, 0, 1), (2, 2, 1), (3, 2, 0))
        self.assert_one_of((2, streams, (1, 1), ()), (1,), (2,), (3,))
        self.assert_one_of((2, streams, (1, 1), ((2, 5),)), ())

    def test_rings_that_share_a_stream(self):
        streams = ((1, 0, 1), (2, 1, 2), (3, 2, 0), (4, 1, 3), (5, 3, 2))
        right = [pair for pair in itertools.combinations(range(1, 6), 2) if pair not in ((1, 3), (4, 5))]
        self.assert_one_of((3, streams, (1, 1, 1), ()), *right)

    def test_rings_apart(self):
        streams = ((1, 0, 1), (2, 0, 1), (8, 2, 3), (9, 3, 2))
        self.assert_one_of((3, streams, (1, 1, -1), ()), (1, 8), (1, 9), (2, 8), (2, 9))

    def test_some_metered(self):
        streams = tuple((number, 0, 1) for number in range(1, 6))
        self.assert_one_of((1, streams, (9,), ((1, 1), (2, 1), (3, 1))), (4,), (5,))
        self.assert_one_of((1, streams, (9,), ((1, 1), (2, 1), (3, 1), (4, 1))), ())

    def test_on_days_that_clash(self):
        parts = (3, ((1, 0, 1), (2, 0, 1), (3, 2, 0)), (1, 5, 3), ((3, 0),))
        self.assertEqual(len(plain_clashes(parts)), 2)
        self.assert_one_of(parts, (1,), (2,))
        self.assert_one_of((2, ((1, 1, 2), (2, 1, 2)), (1, 0), ()), (1,), (2,))

    def test_rises_and_readings_do_not_matter(self):
        streams = ((1, 0, 1), (2, 1, 2), (3, 2, 0), (4, 2, 1))
        for rises, reading in itertools.product(((0, 0), (1000, -1000), (5, 6)), (-1000, 0, 7)):
            self.assert_one_of((2, streams, rises, ((4, reading),)), (1,), (2,), (3,))

    def test_as_many_as_can_be(self):
        streams = tuple((number, 0, 1) for number in range(49, 61))
        right = list(itertools.combinations(range(49, 61), 11))
        self.assert_one_of((1, streams, (1,), ()), *right)
        full = tuple((at + 1, *join) for at, join in enumerate(itertools.combinations(range(5), 2)))
        self.assertEqual(len(lacking_of(Day(4, full, (0,) * 4, ()))), 6)

    def test_with_meters_there_each_stream_has_a_meter_or_a_group(self):
        for parts, day in many_days():
            told = lacking_of(day)
            metered = Day(parts[0], parts[1], parts[2], parts[3] + tuple((number, 0) for number in told))
            for stream in metered.without_meter():
                self.assertNotEqual(group_of(metered, stream[0]), ())

    def test_many_days(self):
        counts = set()
        clashing = 0
        for parts, day in many_days():
            told = asked_of(self, lacking_of, day)
            assert_lacking(self, parts, told)
            counts.add(len(told))
            clashing += plain_clashes(parts) != () and told != ()
        self.assertTrue(counts >= set(range(10)))
        self.assertGreater(clashing, 500)

    def test_fewest_by_going_through_all_sets(self):
        for streams in small_nets((0, 1, 2), 4):
            parts = (2, streams, (1, 1), ())
            self.assertEqual(len(lacking_of(Day(*parts))), fewest_by_trying(parts))
        for parts, day in many_days():
            if parts[0] > 2 and len(parts[1]) - len(parts[3]) <= 6:
                self.assertEqual(len(lacking_of(day)), fewest_by_trying(parts))


if __name__ == "__main__":
    unittest.main()
