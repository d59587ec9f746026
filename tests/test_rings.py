"""Points 12 and 5 and the interface, tankbalance/rings.py."""

import unittest

from tankbalance.days import Day
from tankbalance.errors import CellarError, UnknownStream
from tankbalance.rings import ring_of
from tankbalance.settle import setting_of
from tests.helper import (
    along, asked_of, assert_refused, assert_ring, assert_setting, many_days, plain_clashes, plain_without_meter,
    tied_pairs,
)


class RingTest(unittest.TestCase):
    def assert_told_ring(self, parts, number, *right):
        tanks, streams, rises, readings = parts
        for turned in (streams, streams[::-1]):
            ring = asked_of(self, ring_of, Day(tanks, list(turned), list(rises), list(readings)), number)
            self.assertIs(type(ring), tuple)
            self.assertIn(ring, right)
            if ring != ():
                assert_ring(self, parts, number, ring)

    def test_a_stream_alone_has_none(self):
        self.assert_told_ring((1, ((5, 0, 1),), (1,), ()), 5, ())
        self.assert_told_ring((3, ((5, 0, 1), (6, 1, 2), (7, 3, 0)), (1, 1, 1), ()), 6, ())

    def test_two_streams_between_the_same_two_places(self):
        same = (1, ((5, 0, 1), (6, 0, 1)), (1,), ())
        self.assert_told_ring(same, 5, ((5, 1), (6, -1)))
        self.assert_told_ring(same, 6, ((6, 1), (5, -1)))
        against = (2, ((5, 2, 1), (6, 1, 2)), (1, -1), ())
        self.assert_told_ring(against, 5, ((5, 1), (6, 1)))
        self.assert_told_ring(against, 6, ((6, 1), (5, 1)))

    def test_around_three_places(self):
        parts = (2, ((1, 0, 1), (2, 2, 1), (3, 2, 0)), (1, 1), ())
        self.assert_told_ring(parts, 1, ((1, 1), (2, -1), (3, 1)))
        self.assert_told_ring(parts, 2, ((2, 1), (1, -1), (3, -1)))
        self.assert_told_ring(parts, 3, ((3, 1), (1, 1), (2, -1)))

    def test_several_rings(self):
        parts = (2, ((1, 0, 1), (2, 0, 1), (3, 1, 2), (4, 2, 0)), (1, 1), ())
        self.assert_told_ring(parts, 1, ((1, 1), (2, -1)), ((1, 1), (3, 1), (4, 1)))
        self.assert_told_ring(parts, 3, ((3, 1), (4, 1), (1, 1)), ((3, 1), (4, 1), (2, 1)))

    def test_a_stream_with_a_meter_has_none(self):
        self.assert_told_ring((1, ((5, 0, 1), (6, 0, 1), (7, 1, 0)), (1,), ((5, 9),)), 5, ())
        self.assert_told_ring((1, ((5, 0, 1), (6, 0, 1), (7, 1, 0)), (1,), ((5, 9),)), 6, ((6, 1), (7, 1)))

    def test_no_ring_goes_over_a_stream_with_a_meter(self):
        self.assert_told_ring((1, ((5, 0, 1), (6, 0, 1)), (1,), ((5, 9),)), 6, ())
        streams = ((1, 0, 1), (2, 1, 2), (3, 2, 3), (4, 3, 0), (5, 2, 0))
        self.assert_told_ring((3, streams, (1, 1, 1), ((5, 0),)), 1, ((1, 1), (2, 1), (3, 1), (4, 1)))
        self.assert_told_ring((3, streams, (1, 1, 1), ((4, 0),)), 1, ((1, 1), (2, 1), (5, 1)))
        self.assert_told_ring((3, streams, (1, 1, 1), ((4, 0),)), 3, ())

    def test_clashes_do_not_matter(self):
        parts = (3, ((1, 1, 2), (2, 2, 1), (3, 0, 1)), (500, 0, 7), ((3, -500),))
        self.assertEqual(len(plain_clashes(parts)), 2)
        self.assert_told_ring(parts, 1, ((1, 1), (2, 1)))
        self.assert_told_ring(parts, 3, ())

    def test_unknown_streams(self):
        calm = Day(1, ((5, 0, 1), (6, 0, 1)), (1,), ((5, 1),))
        clashing = Day(2, ((5, 0, 1), (6, 0, 1)), (1, 1), ((5, 1),))
        for day in (calm, clashing, Day(0, (), (), ())):
            for number in (0, -1, -5, 1, 4, 7, 60, 61, 2 ** 70, 10 ** 5000, -(10 ** 5000)):
                asked_of(self, lambda one: assert_refused(self, UnknownStream, ring_of, one, number), day)
        for base in (CellarError, ValueError):
            with self.assertRaises(base):
                ring_of(calm, 7)

    def test_many_days(self):
        for parts, day in many_days():
            unmetered = plain_without_meter(parts)
            setting = None if plain_clashes(parts) else setting_of(day)
            for number, source, target in parts[1]:
                ring = asked_of(self, ring_of, day, number)
                others = [stream for stream in unmetered if stream[0] != number]
                tied = (source, target) in tied_pairs(range(parts[0] + 1), others)
                if (number, source, target) not in unmetered or not tied:
                    self.assertEqual(ring, ())
                    self.assertIs(type(ring), tuple)
                    continue
                assert_ring(self, parts, number, ring)
                if setting is not None:
                    for amount in (1, -7, 5000):
                        assert_setting(self, parts, along(setting, ring, amount))


if __name__ == "__main__":
    unittest.main()
