"""Points 4 and 5 and the interface, tankbalance/ties.py."""

import itertools
import unittest

from tankbalance.ties import bunches_of, path_of
from tests.helper import answer_unchanged, assert_told, assert_way, in_all_forms, small_nets, tied_pairs


class BunchesTest(unittest.TestCase):
    def assert_bunches(self, tanks, streams, expected):
        for (row,) in in_all_forms(streams):
            with self.subTest(tanks=tanks, streams=row):
                bunches = answer_unchanged(self, bunches_of, tanks, row)
                self.assertEqual(bunches, expected)
                assert_told(self, bunches)

    def test_no_tanks(self):
        self.assert_bunches(0, (), ((0,),))

    def test_no_streams(self):
        self.assert_bunches(1, (), ((0,), (1,)))
        self.assert_bunches(7, (), ((0,), (1,), (2,), (3,), (4,), (5,), (6,), (7,)))

    def test_all_in_one_bunch(self):
        self.assert_bunches(3, ((5, 3, 1), (2, 2, 3), (9, 1, 0)), ((0, 1, 2, 3),))
        self.assert_bunches(2, ((1, 2, 0), (2, 1, 0)), ((0, 1, 2),))

    def test_several_bunches_by_their_least_places(self):
        streams = ((1, 7, 2), (2, 5, 0), (3, 6, 3), (4, 2, 4))
        self.assert_bunches(7, streams, ((0, 5), (1,), (2, 4, 7), (3, 6)))
        self.assert_bunches(7, streams[::-1], ((0, 5), (1,), (2, 4, 7), (3, 6)))

    def test_the_outside_may_be_alone(self):
        self.assert_bunches(3, ((1, 3, 2), (2, 1, 3)), ((0,), (1, 2, 3)))

    def test_the_outside_may_join(self):
        self.assert_bunches(4, ((1, 4, 0), (2, 0, 2)), ((0, 2, 4), (1,), (3,)))

    def test_several_streams_between_two_places(self):
        self.assert_bunches(3, ((4, 1, 3), (3, 1, 3), (2, 3, 1)), ((0,), (1, 3), (2,)))

    def test_streams_are_gone_over_in_either_direction(self):
        self.assert_bunches(3, ((1, 1, 2), (2, 3, 2)), ((0,), (1, 2, 3)))
        self.assert_bunches(3, ((1, 2, 1), (2, 2, 3)), ((0,), (1, 2, 3)))

    def test_two_parts_joined_late(self):
        streams = ((1, 1, 2), (2, 3, 4), (3, 5, 6), (4, 6, 1), (5, 4, 5))
        self.assert_bunches(6, streams, ((0,), (1, 2, 3, 4, 5, 6)))

    def test_stream_numbers_do_not_matter(self):
        self.assert_bunches(2, ((2 ** 70, 2, 1), (0, 1, 2)), ((0,), (1, 2)))

    def test_the_row_may_change_later(self):
        row = [(1, 1, 2)]
        bunches = bunches_of(2, row)
        row.append((2, 0, 1))
        self.assertEqual(bunches, ((0,), (1, 2)))
        self.assertEqual(bunches_of(2, row), ((0, 1, 2),))

    def test_somewhat_beyond_the_bounds(self):
        chain = tuple((place, place, place - 1) for place in range(99, 0, -1))
        self.assert_bunches(100, chain, (tuple(range(100)), (100,)))

    def test_every_small_net(self):
        places = (0, 1, 2, 3)
        for streams in small_nets(places, 3):
            tied = tied_pairs(places, streams)
            expected = []
            for place in places:
                bunch = tuple(other for other in places if (place, other) in tied)
                if bunch not in expected:
                    expected.append(bunch)
            self.assertEqual(bunches_of(3, streams), tuple(expected))


class PathTest(unittest.TestCase):
    def asked(self, streams, start, goal):
        """The ways told for the row as a list and as a tuple, each held against point 5."""
        ways = []
        for (row,) in in_all_forms(streams):
            way = answer_unchanged(self, path_of, row, start, goal)
            if way is not None:
                assert_way(self, streams, start, goal, way)
            ways.append(way)
        return ways

    def assert_told_way(self, streams, start, goal, *right):
        for way in self.asked(streams, start, goal):
            self.assertIn(way, right)

    def test_from_a_place_to_itself(self):
        self.assert_told_way((), 0, 0, ())
        self.assert_told_way((), 3, 3, ())
        self.assert_told_way(((1, 1, 2), (2, 2, 1)), 1, 1, ())
        self.assert_told_way(((1, 1, 2), (2, 2, 0), (3, 0, 1)), 0, 0, ())

    def test_over_one_stream_in_each_direction(self):
        self.assert_told_way(((5, 1, 2),), 1, 2, ((5, 1),))
        self.assert_told_way(((5, 1, 2),), 2, 1, ((5, -1),))
        self.assert_told_way(((5, 0, 2),), 0, 2, ((5, 1),))
        self.assert_told_way(((5, 0, 2),), 2, 0, ((5, -1),))

    def test_over_several_streams(self):
        streams = ((9, 3, 0), (4, 1, 2), (7, 3, 2), (1, 4, 0))
        self.assert_told_way(streams, 1, 4, ((4, 1), (7, -1), (9, 1), (1, -1)))
        self.assert_told_way(streams, 4, 1, ((1, 1), (9, -1), (7, 1), (4, -1)))
        self.assert_told_way(streams, 2, 0, ((7, -1), (9, 1)))

    def test_several_streams_between_two_places(self):
        streams = ((3, 1, 2), (8, 2, 1), (5, 1, 2))
        self.assert_told_way(streams, 1, 2, ((3, 1),), ((8, -1),), ((5, 1),))
        self.assert_told_way(streams, 2, 1, ((3, -1),), ((8, 1),), ((5, -1),))

    def test_several_ways(self):
        streams = ((3, 1, 2), (8, 2, 4), (5, 3, 1), (2, 4, 3))
        self.assert_told_way(streams, 1, 4, ((3, 1), (8, 1)), ((5, -1), (2, -1)))
        self.assert_told_way(streams, 1, 2, ((3, 1),), ((5, -1), (2, -1), (8, -1)))

    def test_dead_ends_are_left(self):
        streams = ((1, 1, 2), (2, 2, 3), (3, 1, 4), (4, 4, 5), (5, 5, 4), (6, 6, 1), (7, 5, 7))
        self.assert_told_way(streams, 1, 7, ((3, 1), (4, 1), (7, 1)), ((3, 1), (5, -1), (7, 1)))

    def test_where_there_is_none(self):
        self.assert_told_way((), 0, 1, None)
        self.assert_told_way(((1, 1, 2), (2, 0, 3)), 1, 3, None)
        self.assert_told_way(((1, 1, 2), (2, 0, 3)), 0, 2, None)
        self.assert_told_way(((1, 1, 2),), 1, 5, None)
        self.assert_told_way(((1, 1, 2),), 5, 1, None)

    def test_stream_numbers_of_any_size(self):
        self.assert_told_way(((0, 1, 2), (2 ** 70, 3, 2)), 1, 3, ((0, 1), (2 ** 70, -1)))

    def test_the_row_may_change_later(self):
        row = [(1, 1, 2), (2, 2, 3)]
        way = path_of(row, 1, 3)
        row.clear()
        self.assertEqual(way, ((1, 1), (2, 1)))
        self.assertIsNone(path_of(row, 1, 3))

    def test_somewhat_beyond_the_bounds(self):
        chain = tuple((place, place, place - 1) for place in range(100, 0, -1))
        self.assert_told_way(chain, 100, 0, tuple((place, 1) for place in range(100, 0, -1)))

    def test_all_places_joined(self):
        joins = itertools.permutations(range(8), 2)
        streams = [(number, source, target) for number, (source, target) in enumerate(joins, 1)]
        for start, goal in itertools.product(range(8), repeat=2):
            self.assertNotIn(None, self.asked(streams, start, goal))

    def test_every_small_net(self):
        places = (0, 1, 2, 3)
        for streams in small_nets(places, 3):
            tied = tied_pairs(places, streams)
            for start, goal in itertools.product(places, repeat=2):
                way = path_of(streams, start, goal)
                self.assertEqual(way is not None, (start, goal) in tied)
                if way is not None:
                    assert_way(self, streams, start, goal, way)


if __name__ == "__main__":
    unittest.main()
