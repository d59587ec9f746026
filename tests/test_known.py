"""Points 11, 13, 3 and 24, and the interface, tankbalance/known.py."""

import unittest

from tankbalance.days import Day
from tankbalance.errors import CellarError, Clashing, UnknownStream
from tankbalance.known import group_of, told_of
from tankbalance.rings import ring_of
from tankbalance.settle import setting_of
from tests.helper import (
    along, asked_of, assert_refused, assert_stream_told, assert_told, many_days, plain_clashes, plain_groups,
)

UNKNOWN = (0, -1, -5, 1, 4, 7, 60, 61, 2 ** 70, 10 ** 5000, -(10 ** 5000))


def days_of(parts):
    tanks, streams, rises, readings = parts
    for turned in (streams, streams[::-1]):
        yield Day(tanks, list(turned), list(rises), list(readings))


class GroupTest(unittest.TestCase):
    def assert_group(self, parts, number, *right):
        for day in days_of(parts):
            group = asked_of(self, group_of, day, number)
            self.assertIn(group, right)
            assert_told(self, group)

    def test_a_stream_alone(self):
        self.assert_group((1, ((5, 0, 1),), (1,), ()), 5, (1,))
        self.assert_group((1, ((5, 1, 0),), (1,), ()), 5, (1,))
        self.assert_group((2, ((5, 1, 2),), (1, -1), ()), 5, (1,), (2,))

    def test_tanks_that_no_stream_ties_may_be_in_it(self):
        self.assert_group((2, ((5, 0, 2),), (1, 0), ()), 5, (2,), (1, 2))

    def test_behind_the_stream_all_that_hangs_on_it(self):
        streams = ((1, 0, 1), (2, 1, 2), (3, 2, 3), (4, 4, 2))
        self.assert_group((4, streams, (1, 1, 1, 1), ()), 1, (1, 2, 3, 4))
        self.assert_group((4, streams, (1, 1, 1, 1), ()), 2, (2, 3, 4))
        self.assert_group((4, streams, (1, 1, 1, 1), ()), 3, (3,))
        self.assert_group((4, streams, (1, 1, 1, 1), ()), 4, (4,))

    def test_the_side_without_the_outside(self):
        self.assert_group((3, ((1, 2, 0), (2, 3, 2), (3, 1, 3)), (1, 1, 1), ()), 2, (1, 3))
        self.assert_group((3, ((1, 2, 0), (2, 2, 3), (3, 1, 3)), (1, 1, 1), ()), 2, (1, 3))

    def test_two_sides_without_the_outside(self):
        parts = (4, ((1, 3, 1), (2, 1, 4), (3, 4, 2)), (0, 0, 0, 0), ())
        self.assert_group(parts, 2, (1, 3), (2, 4))

    def test_a_ring_behind_the_stream(self):
        streams = ((1, 0, 3), (2, 3, 2), (3, 2, 1), (4, 1, 3))
        self.assert_group((3, streams, (1, 1, 1), ()), 1, (1, 2, 3))
        for number in (2, 3, 4):
            self.assert_group((3, streams, (1, 1, 1), ()), number, ())

    def test_streams_with_meters_may_cross(self):
        streams = ((1, 0, 1), (2, 0, 1), (3, 1, 2))
        self.assert_group((2, streams, (1, 1), ()), 1, ())
        self.assert_group((2, streams, (1, 1), ((2, 9),)), 1, (1, 2))
        self.assert_group((2, streams, (1, 1), ((2, 9), (3, 9))), 1, (1,), (1, 2))

    def test_a_stream_with_a_meter_has_none(self):
        self.assert_group((1, ((5, 0, 1),), (1,), ((5, 1),)), 5, ())
        self.assert_group((2, ((5, 0, 1), (6, 1, 2)), (1, 1), ((5, 1),)), 5, ())

    def test_clashes_do_not_matter(self):
        parts = (3, ((1, 0, 1), (2, 1, 2), (3, 0, 3)), (500, 0, 7), ((1, -500), (3, 1)))
        self.assertEqual(len(plain_clashes(parts)), 2)
        self.assert_group(parts, 2, (1,), (2,), (1, 3), (2, 3))
        self.assert_group(parts, 1, ())

    def test_unknown_streams(self):
        calm = Day(1, ((5, 0, 1), (6, 0, 1)), (1,), ((5, 1),))
        clashing = Day(2, ((5, 0, 1), (6, 0, 1)), (1, 1), ((5, 1),))
        for day in (calm, clashing, Day(0, (), (), ())):
            for number in UNKNOWN:
                asked_of(self, lambda one: assert_refused(self, UnknownStream, group_of, one, number), day)
        for base in (CellarError, ValueError):
            with self.assertRaises(base):
                group_of(calm, 7)

    def test_many_days(self):
        for parts, day in many_days():
            groups = plain_groups(parts)
            for number, source, target in parts[1]:
                group = asked_of(self, group_of, day, number)
                assert_told(self, group)
                if groups.get(number):
                    self.assertIn(group, groups[number])
                else:
                    self.assertEqual(group, ())

    def test_many_days_either_group_or_ring(self):
        for parts, day in many_days():
            metered = dict(parts[3])
            for number, source, target in parts[1]:
                group, ring = group_of(day, number), ring_of(day, number)
                if number in metered:
                    self.assertEqual((group, ring), ((), ()))
                else:
                    self.assertNotEqual(group == (), ring == ())


class ToldTest(unittest.TestCase):
    def assert_one_told(self, parts, number, *right):
        for day in days_of(parts):
            told = asked_of(self, told_of, day, number)
            self.assertIn(told, right)
            self.assertEqual([type(part) for part in told], [str, type(right[0][1]), tuple, tuple])
            assert_told(self, told[2:])

    def assert_told_refused(self, refusal, day, number):
        asked_of(self, lambda one: assert_refused(self, refusal, told_of, one, number), day)

    def test_metered(self):
        parts = (2, ((5, 0, 1), (6, 1, 2), (7, 1, 2)), (1, 2), ((5, 3),))
        self.assert_one_told(parts, 5, ("metered", 3, (), ()))
        self.assert_one_told((1, ((5, 1, 0),), (0,), ((5, 0),)), 5, ("metered", 0, (), ()))
        self.assert_one_told((1, ((5, 1, 0),), (1000,), ((5, -1000),)), 5, ("metered", -1000, (), ()))

    def test_known_leading_into_its_group(self):
        self.assert_one_told((1, ((5, 0, 1),), (12,), ()), 5, ("known", 12, (1,), ()))
        self.assert_one_told((1, ((5, 0, 1),), (0,), ()), 5, ("known", 0, (1,), ()))
        self.assert_one_told((1, ((5, 0, 1),), (-12,), ()), 5, ("known", -12, (1,), ()))

    def test_known_leading_out_of_its_group(self):
        self.assert_one_told((1, ((5, 1, 0),), (12,), ()), 5, ("known", -12, (1,), ()))
        self.assert_one_told((1, ((5, 1, 0),), (-12,), ()), 5, ("known", 12, (1,), ()))

    def test_known_between_tanks(self):
        parts = (2, ((5, 1, 2),), (-8, 8), ())
        self.assert_one_told(parts, 5, ("known", 8, (1,), ()), ("known", 8, (2,), ()))
        parts = (2, ((5, 2, 1),), (-8, 8), ())
        self.assert_one_told(parts, 5, ("known", -8, (1,), ()), ("known", -8, (2,), ()))

    def test_known_beside_meters(self):
        streams = ((1, 0, 1), (2, 1, 2), (3, 2, 0), (4, 1, 0))
        parts = (2, streams, (100, 20), ((1, 150), (3, 7)))
        self.assert_one_told(parts, 2, ("known", 27, (2,), ()))
        self.assert_one_told(parts, 4, ("known", 23, (1, 2), ()))

    def test_known_beyond_the_bound_of_readings(self):
        chain = tuple((tank, tank - 1, tank) for tank in range(1, 8))
        self.assert_one_told((7, chain, (1000,) * 7, ()), 1, ("known", 7000, (1, 2, 3, 4, 5, 6, 7), ()))
        fan = tuple((number, 0, 1) for number in range(1, 11)) + ((11, 1, 0),)
        readings = tuple((number, 1000) for number in range(1, 11))
        self.assert_one_told((1, fan, (-1000,), readings), 11, ("known", 11000, (1,), ()))

    def test_open(self):
        parts = (1, ((5, 0, 1), (6, 0, 1)), (4,), ())
        self.assert_one_told(parts, 5, ("open", None, (), ((5, 1), (6, -1))))
        self.assert_one_told(parts, 6, ("open", None, (), ((6, 1), (5, -1))))

    def test_all_three_on_one_day(self):
        streams = ((1, 0, 1), (2, 1, 2), (3, 2, 3), (4, 3, 2), (5, 3, 0))
        parts = (3, streams, (10, 20, 30), ((5, 2),))
        self.assert_one_told(parts, 1, ("known", 62, (1, 2, 3), ()))
        self.assert_one_told(parts, 2, ("known", 52, (2, 3), ()))
        self.assert_one_told(parts, 3, ("open", None, (), ((3, 1), (4, 1))))
        self.assert_one_told(parts, 4, ("open", None, (), ((4, 1), (3, 1))))
        self.assert_one_told(parts, 5, ("metered", 2, (), ()))

    def test_a_clash_anywhere_refuses_every_stream(self):
        day = Day(3, ((1, 0, 1), (2, 0, 1), (3, 2, 0), (4, 0, 2), (5, 0, 1)), (1, 2, 3), ((3, 0), (5, 1)))
        self.assertEqual(len(plain_clashes((3, day.streams, day.rises, day.readings))), 1)
        for number in (1, 2, 3, 4, 5):
            self.assert_told_refused(Clashing, day, number)
        for base in (CellarError, ValueError):
            with self.assertRaises(base):
                told_of(day, 1)

    def test_unknown_streams_ahead_of_clashing(self):
        calm = Day(1, ((5, 0, 1), (6, 0, 1)), (1,), ((5, 1),))
        clashing = Day(2, ((5, 0, 1), (6, 0, 1)), (1, 1), ((5, 1),))
        self.assert_told_refused(Clashing, clashing, 5)
        for day in (calm, clashing, Day(0, (), (), ()), Day(1, (), (1,), ())):
            for number in UNKNOWN:
                self.assert_told_refused(UnknownStream, day, number)

    def test_many_days(self):
        seen = {"metered": 0, "known": 0, "open": 0, "refused": 0}
        for parts, day in many_days():
            if plain_clashes(parts):
                seen["refused"] += 1
                for stream in parts[1]:
                    self.assert_told_refused(Clashing, day, stream[0])
                continue
            setting = setting_of(day)
            rings = [ring_of(day, stream[0]) for stream in parts[1]]
            settings = [setting] + [along(setting, ring, 77) for ring in rings]
            for number, source, target in parts[1]:
                told = asked_of(self, told_of, day, number)
                seen[assert_stream_told(self, parts, number, told, settings)] += 1
        self.assertGreater(min(seen.values()), 500)


if __name__ == "__main__":
    unittest.main()
