"""Points 8 to 10 and the interface, tankbalance/settle.py."""

import unittest

from tankbalance.days import Day
from tankbalance.errors import CellarError, Clashing
from tankbalance.settle import clashes_of, setting_of
from tests.helper import asked_of, assert_refused, assert_setting, assert_told, many_days, plain_clashes


class ClashesTest(unittest.TestCase):
    def assert_clashes(self, parts, expected):
        tanks, streams, rises, readings = parts
        for turned in (streams, streams[::-1]):
            clashes = asked_of(self, clashes_of, Day(tanks, list(turned), list(rises), list(readings)))
            self.assertEqual(clashes, expected)
            assert_told(self, clashes)

    def test_nothing_there(self):
        self.assert_clashes((0, (), (), ()), ())
        self.assert_clashes((2, (), (0, 0), ()), ())

    def test_a_tank_without_streams(self):
        self.assert_clashes((1, (), (-3,), ()), (((1,), -3, 0),))
        self.assert_clashes((3, (), (1, 0, 5), ()), (((1,), 1, 0), ((3,), 5, 0)))

    def test_all_metered(self):
        streams = ((1, 0, 1), (2, 1, 2), (3, 2, 0))
        readings = ((1, 30), (2, 12), (3, 7))
        self.assert_clashes((2, streams, (18, 5), readings), ())
        self.assert_clashes((2, streams, (18, 6), readings), (((2,), 6, 5),))
        self.assert_clashes((2, streams, (17, 6), readings), (((1,), 17, 18), ((2,), 6, 5)))

    def test_a_group_of_several_tanks(self):
        streams = ((5, 0, 1), (6, 1, 3), (7, 2, 0), (8, 2, 0))
        readings = ((5, 40), (7, 2), (8, -3))
        # 6 alone has no meter: 1 and 3 are one group, 2 is another.
        self.assert_clashes((3, streams, (100, 1, -60), readings), ())
        self.assert_clashes((3, streams, (100, 1, -61), readings), (((1, 3), 39, 40),))
        self.assert_clashes((3, streams, (100, 0, -61), readings), (((1, 3), 39, 40), ((2,), 0, 1)))

    def test_the_least_tank_first(self):
        streams = ((1, 5, 2), (2, 6, 1), (3, 4, 3))
        expected = (((1, 6), 33, 0), ((2, 5), 18, 0), ((3, 4), 12, 0))
        self.assert_clashes((6, streams, (1, 2, 4, 8, 16, 32), ()), expected)

    def test_a_bunch_with_the_outside_never_clashes(self):
        self.assert_clashes((1, ((1, 0, 1),), (1000,), ()), ())
        self.assert_clashes((2, ((1, 1, 0), (2, 2, 1), (3, 0, 2)), (1000, -999), ((3, 1000),)), ())
        streams = ((1, 1, 0), (2, 1, 2), (3, 2, 3))
        self.assert_clashes((3, streams, (9, 9, 9), ((3, 8),)), (((3,), 9, 8),))
        self.assert_clashes((3, streams, (9, 9, 9), ((2, 8),)), (((2, 3), 18, 8),))

    def test_streams_within_a_group_bring_nothing(self):
        streams = ((1, 1, 2), (2, 1, 2), (3, 2, 1), (4, 0, 2))
        self.assert_clashes((2, streams, (4, 5), ((2, 500), (3, -77), (4, 9))), ())
        self.assert_clashes((2, streams, (4, 5), ((2, 500), (3, -77), (4, 8))), (((1, 2), 9, 8),))

    def test_rises_that_cancel_within_a_group(self):
        self.assert_clashes((2, ((1, 1, 2),), (1000, -1000), ()), ())
        self.assert_clashes((2, (), (1000, -1000), ()), (((1,), 1000, 0), ((2,), -1000, 0)))

    def test_a_clash_ends_where_a_meter_is_doubted(self):
        day = Day(2, ((1, 0, 1), (2, 1, 2)), (5, 5), ((1, 11), (2, 5)))
        self.assertEqual(clashes_of(day), (((1,), 5, 6),))
        self.assertEqual(clashes_of(day.doubting([2])), (((1, 2), 10, 11),))
        self.assertEqual(clashes_of(day.doubting([1])), ())

    def test_many_days(self):
        for parts, day in many_days():
            clashes = asked_of(self, clashes_of, day)
            self.assertEqual(clashes, plain_clashes(parts))
            assert_told(self, clashes)

    def test_many_days_hold_all_cases(self):
        counts = {len(plain_clashes(parts)) for parts, day in many_days()}
        self.assertTrue(counts >= {0, 1, 2, 3})


class SettingTest(unittest.TestCase):
    def assert_set(self, parts, expected=None):
        tanks, streams, rises, readings = parts
        for turned in (streams, streams[::-1]):
            setting = asked_of(self, setting_of, Day(tanks, list(turned), list(rises), list(readings)))
            assert_setting(self, parts, setting)
            if expected is not None:
                self.assertEqual(setting, expected)

    def assert_clashing(self, parts):
        asked_of(self, lambda day: assert_refused(self, Clashing, setting_of, day), Day(*parts))

    def test_nothing_there(self):
        self.assert_set((0, (), (), ()), ())
        self.assert_set((3, (), (0, 0, 0), ()), ())

    def test_all_metered(self):
        streams = ((8, 2, 0), (3, 1, 2), (1, 0, 1))
        self.assert_set((2, streams, (18, 5), ((8, 7), (1, 30), (3, 12))), ((1, 30), (3, 12), (8, 7)))

    def test_one_way_only(self):
        streams = ((1, 0, 1), (2, 1, 2), (3, 3, 2))
        self.assert_set((3, streams, (1, 20, 300), ()), ((1, 321), (2, 320), (3, -300)))
        self.assert_set((3, streams, (1, 20, 300), ((1, 321),)), ((1, 321), (2, 320), (3, -300)))

    def test_the_outside_may_give_and_take(self):
        self.assert_set((2, ((1, 0, 1), (2, 2, 0)), (-40, -2), ()), ((1, -40), (2, 2)))

    def test_tanks_alone(self):
        self.assert_set((3, ((4, 2, 1), (5, 3, 1)), (30, -10, -20), ()), ((4, 10), (5, 20)))
        self.assert_set((3, ((4, 1, 2), (5, 3, 1)), (30, -10, -20), ()), ((4, -10), (5, 20)))

    def test_several_streams_between_the_same_two_places(self):
        streams = ((1, 0, 1), (2, 0, 1), (3, 1, 0), (4, 1, 2), (5, 2, 1))
        self.assert_set((2, streams, (7, 9), ()))
        self.assert_set((2, streams, (7, 9), ((1, 1000), (4, -1000))))
        expected = ((1, 1000), (2, 50), (3, 1034), (4, -1000), (5, -1009))
        self.assert_set((2, streams, (7, 9), ((1, 1000), (2, 50), (4, -1000))), expected)

    def test_amounts_beyond_the_bound_of_readings(self):
        chain = tuple((tank, tank - 1, tank) for tank in range(1, 8))
        expected = tuple((tank, 1000 * (8 - tank)) for tank in range(1, 8))
        self.assert_set((7, chain, (1000,) * 7, ()), expected)
        fan = tuple((number, 0, 1) for number in range(1, 12))
        readings = tuple((number, -1000) for number in range(1, 11))
        self.assert_set((1, fan, (1000,), readings), readings + ((11, 11000),))

    def test_rings(self):
        ring = ((1, 1, 2), (2, 2, 3), (3, 3, 1))
        self.assert_set((3, ring, (0, 0, 0), ()))
        self.assert_set((3, ring, (5, -3, -2), ()))
        self.assert_set((3, ring + ((4, 0, 2), (5, 3, 0)), (5, 6, 7), ((4, -900),)))

    def test_clashing_days(self):
        self.assert_clashing((1, (), (1,), ()))
        self.assert_clashing((1, ((1, 0, 1),), (1,), ((1, 2),)))
        self.assert_clashing((2, ((1, 1, 2),), (1, 0), ()))
        # The outside's bunch could be settled by itself; the other one still clashes.
        self.assert_clashing((3, ((1, 0, 1), (2, 2, 3)), (5, 1, 1), ()))
        # Two clashes that together would cancel.
        self.assert_clashing((2, (), (1, -1), ()))

    def test_clashing_is_caught_by_its_bases(self):
        for base in (CellarError, ValueError):
            with self.assertRaises(base):
                setting_of(Day(1, (), (1,), ()))

    def test_a_hundred_streams(self):
        streams = tuple((number, *((0, 1), (1, 2), (2, 0), (2, 1))[number % 4]) for number in range(1, 101))
        self.assert_set((2, streams, (2 ** 90, -5), tuple((number, number) for number in range(1, 101, 3))))

    def test_many_days(self):
        told = {True: 0, False: 0}
        for parts, day in many_days():
            clashing = len(plain_clashes(parts)) > 0
            told[clashing] += 1
            if clashing:
                asked_of(self, lambda one: assert_refused(self, Clashing, setting_of, one), day)
            else:
                assert_setting(self, parts, asked_of(self, setting_of, day))
        self.assertGreater(min(told.values()), 500)


if __name__ == "__main__":
    unittest.main()
