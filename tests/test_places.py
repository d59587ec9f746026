"""Points 1 to 3 and the interface, tankbalance/places.py."""

import itertools
import unittest

from tankbalance import places
from tankbalance.places import brought_by, crossing_of, rise_of, way_over
from tests.helper import answer_unchanged, assert_told, in_all_forms, small_nets

HUGE = 2 ** 200 + 1

# Two streams join 1 and 2 the same way, one the other way; numbers do not rise.
STREAMS = ((8, 0, 1), (3, 1, 2), (21, 1, 2), (5, 2, 1), (2, 2, 0), (13, 3, 2), (60, 0, 3))


class ConstantsTest(unittest.TestCase):
    def test_values(self):
        expected = {
            "OUTSIDE": 0, "MOST_TANKS": 7, "MOST_STREAMS": 12, "MOST_METERS": 10,
            "MOST_AMOUNT": 1000, "MOST_DAYS": 12, "MOST_DEEDS": 60,
        }
        for name, value in expected.items():
            with self.subTest(name=name):
                self.assertEqual(getattr(places, name), value)
                self.assertIs(type(getattr(places, name)), int)


class WayOverTest(unittest.TestCase):
    def assert_way(self, stream, group, expected):
        for (row,) in in_all_forms(group):
            with self.subTest(stream=stream, group=row):
                way = answer_unchanged(self, way_over, stream, row)
                self.assertEqual(way, expected)
                self.assertIs(type(way), int)

    def test_target_alone_leads_into(self):
        self.assert_way((1, 2, 3), (3,), 1)
        self.assert_way((1, 3, 2), (2,), 1)
        self.assert_way((1, 2, 3), (5, 3, 1), 1)

    def test_source_alone_leads_out(self):
        self.assert_way((1, 2, 3), (2,), -1)
        self.assert_way((1, 3, 2), (3,), -1)
        self.assert_way((1, 2, 3), (7, 2, 1), -1)

    def test_both_ends_within_do_not_cross(self):
        self.assert_way((1, 2, 3), (2, 3), 0)
        self.assert_way((1, 2, 3), (3, 1, 2), 0)

    def test_neither_end_within_does_not_cross(self):
        self.assert_way((1, 2, 3), (1, 4), 0)
        self.assert_way((1, 0, 3), (1, 2), 0)

    def test_the_outside_is_never_within(self):
        self.assert_way((1, 0, 3), (3,), 1)
        self.assert_way((1, 3, 0), (3,), -1)
        self.assert_way((1, 0, 3), (1, 2, 3, 4, 5, 6, 7), 1)
        self.assert_way((1, 3, 0), (1, 2, 3, 4, 5, 6, 7), -1)

    def test_nothing_crosses_a_group_of_no_tank(self):
        self.assert_way((1, 2, 3), (), 0)
        self.assert_way((1, 0, 3), (), 0)
        self.assert_way((1, 3, 0), (), 0)

    def test_the_stream_number_does_not_matter(self):
        self.assert_way((2, 1, 3), (2,), 0)
        self.assert_way((3, 1, 2), (3, 1), -1)
        self.assert_way((HUGE, 1, 2), (2,), 1)
        self.assert_way((0, 1, 2), (2,), 1)


class CrossingTest(unittest.TestCase):
    def assert_crossing(self, streams, group, expected):
        for row, tanks in in_all_forms(streams, group):
            with self.subTest(streams=row, group=tanks):
                crossing = answer_unchanged(self, crossing_of, row, tanks)
                self.assertEqual(crossing, expected)
                assert_told(self, crossing)

    def test_some_cross_in_the_order_handed_in(self):
        self.assert_crossing(STREAMS, (1,), ((8, 0, 1), (3, 1, 2), (21, 1, 2), (5, 2, 1)))
        self.assert_crossing(STREAMS, (3, 2), ((3, 1, 2), (21, 1, 2), (5, 2, 1), (2, 2, 0), (60, 0, 3)))
        self.assert_crossing(STREAMS, (1, 2), ((8, 0, 1), (2, 2, 0), (13, 3, 2)))

    def test_the_order_is_the_one_handed_in_turned_too(self):
        turned = STREAMS[::-1]
        self.assert_crossing(turned, (1,), ((5, 2, 1), (21, 1, 2), (3, 1, 2), (8, 0, 1)))
        self.assert_crossing(sorted(STREAMS), (1,), ((3, 1, 2), (5, 2, 1), (8, 0, 1), (21, 1, 2)))

    def test_none_cross(self):
        self.assert_crossing(STREAMS, (4,), ())
        self.assert_crossing(((4, 1, 2), (1, 2, 1)), (2, 1), ())

    def test_all_cross(self):
        streams = ((4, 1, 2), (1, 0, 1), (9, 1, 0), (2, 3, 1))
        self.assert_crossing(streams, (1,), streams)

    def test_no_streams(self):
        self.assert_crossing((), (1, 2), ())
        self.assert_crossing((), (), ())

    def test_nothing_crosses_a_group_of_no_tank(self):
        self.assert_crossing(STREAMS, (), ())

    def test_the_row_may_change_later(self):
        row = list(STREAMS)
        crossing = crossing_of(row, [1])
        row.clear()
        self.assertEqual(crossing, ((8, 0, 1), (3, 1, 2), (21, 1, 2), (5, 2, 1)))

    def test_every_small_net(self):
        for streams in small_nets((0, 1, 2, 3), 2):
            for size in range(4):
                for group in itertools.permutations((1, 2, 3), size):
                    expected = tuple(s for s in streams if len({s[1], s[2]} & set(group)) == 1)
                    self.assertEqual(crossing_of(streams, group), expected)


class BroughtTest(unittest.TestCase):
    def assert_brought(self, streams, amounts, group, expected):
        for rows in in_all_forms(streams, amounts, group):
            with self.subTest(rows=rows):
                brought = answer_unchanged(self, brought_by, *rows)
                self.assertEqual(brought, expected)
                self.assertIs(type(brought), int)

    def test_into_brings_the_amount(self):
        self.assert_brought(((5, 0, 1),), ((5, 12),), (1,), 12)
        self.assert_brought(((5, 0, 1),), ((5, -12),), (1,), -12)
        self.assert_brought(((5, 0, 1),), ((5, 0),), (1,), 0)

    def test_out_of_brings_the_amount_turned(self):
        self.assert_brought(((5, 1, 0),), ((5, 12),), (1,), -12)
        self.assert_brought(((5, 1, 0),), ((5, -12),), (1,), 12)
        self.assert_brought(((5, 1, 0),), ((5, 0),), (1,), 0)

    def test_what_does_not_cross_brings_nothing(self):
        self.assert_brought(((5, 1, 2), (6, 3, 0)), ((5, 12), (6, 7)), (2, 1), 0)

    def test_all_together(self):
        amounts = ((60, 1000), (2, 7), (3, 10), (5, -4), (8, 100), (13, -50), (21, 0))
        self.assert_brought(STREAMS, amounts, (1,), 100 - 10 - 0 + -4)
        self.assert_brought(STREAMS, amounts, (2,), 10 + 0 + 4 - 7 - 50)
        self.assert_brought(STREAMS, amounts, (3,), 50 + 1000)
        self.assert_brought(STREAMS, amounts, (2, 1), 100 - 7 - 50)
        self.assert_brought(STREAMS, amounts, (3, 1, 2), 100 - 7 + 1000)
        self.assert_brought(STREAMS[::-1], amounts[::-1], (3, 1, 2), 100 - 7 + 1000)

    def test_a_stream_without_a_pair_brings_nothing(self):
        self.assert_brought(((5, 0, 1), (6, 0, 1)), ((6, 3),), (1,), 3)
        self.assert_brought(((5, 0, 1), (6, 0, 1)), (), (1,), 0)

    def test_a_pair_without_a_stream_counts_for_nothing(self):
        self.assert_brought(((5, 0, 1),), ((6, 3), (5, 4), (1, 9), (0, 8)), (1,), 4)
        self.assert_brought((), ((6, 3),), (1,), 0)

    def test_nothing_is_brought_to_a_group_of_no_tank(self):
        self.assert_brought(STREAMS, ((8, 1), (2, 2), (60, 3)), (), 0)

    def test_amounts_of_any_size(self):
        streams = ((1, 0, 1), (2, 1, 0), (3, 2, 1))
        self.assert_brought(streams, ((1, HUGE), (2, HUGE - 1)), (1,), 1)
        self.assert_brought(streams, ((1, HUGE), (3, HUGE)), (1,), 2 * HUGE)
        self.assert_brought(streams, ((2, HUGE), (1, -HUGE)), (1,), -2 * HUGE)

    def test_numbers_of_any_size(self):
        streams = ((HUGE, 0, 1), (HUGE + 1, 0, 1), (0, 0, 1))
        self.assert_brought(streams, ((HUGE + 1, 5), (0, 7)), (1,), 12)

    def test_rows_of_a_hundred(self):
        streams = tuple((number, 0, 1) for number in range(1, 101))
        amounts = tuple((number, number) for number in range(100, 0, -1))
        self.assert_brought(streams, amounts, (1,), 5050)


class RiseTest(unittest.TestCase):
    def assert_rise(self, rises, group, expected):
        for rows in in_all_forms(rises, group):
            with self.subTest(rows=rows):
                rise = answer_unchanged(self, rise_of, *rows)
                self.assertEqual(rise, expected)
                self.assertIs(type(rise), int)

    def test_no_tank(self):
        self.assert_rise((1, 20, 300), (), 0)
        self.assert_rise((), (), 0)

    def test_one_tank(self):
        self.assert_rise((1, 20, 300), (1,), 1)
        self.assert_rise((1, 20, 300), (2,), 20)
        self.assert_rise((1, 20, 300), (3,), 300)
        self.assert_rise((-9,), (1,), -9)

    def test_several_tanks_in_any_order(self):
        self.assert_rise((1, 20, -300), (1, 3), -299)
        self.assert_rise((1, 20, -300), (3, 1), -299)

    def test_all_tanks_in_any_order(self):
        for group in itertools.permutations((1, 2, 3, 4)):
            self.assert_rise((1, -20, 300, 0), group, 281)
        self.assert_rise((1, 2, 4, 8, 16, 32, 64), (7, 6, 5, 4, 3, 2, 1), 127)

    def test_rises_of_any_size(self):
        self.assert_rise((HUGE, -HUGE, HUGE), (3, 2, 1), HUGE)


if __name__ == "__main__":
    unittest.main()
