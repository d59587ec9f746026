"""Points 1 and 16 to 24, and the interface, tankbalance/cellar.py: each deed and each question by itself."""

import itertools
import random
import unittest

from tankbalance.cellar import Cellar
from tankbalance.days import Day
from tankbalance.errors import (
    AlreadyMetered, BadTanks, CellarError, Clashing, NothingDone, NotMetered, OutOfRange, ReadingMissing, SamePlace,
    TooManyDays, TooManyDeeds, TooManyMeters, TooManyStreams, Twice, UnknownDay, UnknownPlace, UnknownStream,
    WrongRises,
)
from tests.helper import (
    REFUSALS, Record, answer_unchanged, assert_cellar, assert_day_questions, assert_done, assert_no_such_days,
    assert_refused, assert_told, do, facts_of, in_all_forms, view_of,
)

HUGE = (2 ** 70, -(2 ** 70), 10 ** 5000, -(10 ** 5000))


def cellar_of(tanks, *deeds):
    cellar = Cellar(tanks)
    for deed in deeds:
        do(cellar, deed)
    return cellar


def with_streams(tanks, count, metered=()):
    """A cellar with so many streams between the outside and its tanks, and meters at some."""
    cellar = cellar_of(tanks, *[("stream comes", 0, at % tanks + 1) for at in range(count)])
    if metered:
        cellar.meters_come(tuple(metered))
    return cellar


def fill_deeds(cellar, count=60):
    while len(cellar.deeds()) < count:
        cellar.meters_come(())


class RefusingTest(unittest.TestCase):
    def assert_not_done(self, refusal, cellar, *deed):
        before = view_of(cellar)
        answer_unchanged(self, lambda *handed: assert_refused(self, refusal, do, cellar, handed), *deed)
        self.assertEqual(view_of(cellar), before)

    def assert_rows_not_done(self, refusal, cellar, kind, *rows):
        for formed in in_all_forms(*rows):
            self.assert_not_done(refusal, cellar, kind, *formed)


class NewTest(unittest.TestCase):
    def test_nothing_is_there(self):
        for tanks in range(8):
            cellar = Cellar(tanks)
            self.assertEqual(view_of(cellar), (tanks, (), (), 0, ()))
            assert_told(self, view_of(cellar))
            assert_refused(self, NothingDone, cellar.take_back)
            assert_refused(self, UnknownStream, cellar.stream_goes, 1)
            assert_no_such_days(self, cellar)
            self.assertEqual(view_of(cellar), (tanks, (), (), 0, ()))

    def test_bad_tanks(self):
        for tanks in (-1, -2, -7, 8, 9, 100, *HUGE):
            assert_refused(self, BadTanks, Cellar, tanks)
            for base in (CellarError, ValueError):
                with self.assertRaises(base):
                    Cellar(tanks)

    def test_no_tanks(self):
        cellar = Cellar(0)
        assert_refused(self, SamePlace, cellar.stream_comes, 0, 0)
        assert_refused(self, UnknownPlace, cellar.stream_comes, 0, 1)
        self.assertEqual(cellar.day_passes([], []), 1)
        self.assertEqual(facts_of(cellar.day(1)), (0, (), (), ()))
        self.assertEqual(cellar.clashes(1), ())
        self.assertEqual(cellar.setting(1), ())
        self.assertEqual(cellar.doubts(1), ((), ()))
        self.assertEqual(cellar.lacking(1), ())
        self.assertEqual(cellar.deeds(), (("day passes", (), ()),))
        assert_refused(self, WrongRises, cellar.day_passes, [0], [])

    def test_two_cellars_are_apart(self):
        one, other = Cellar(2), Cellar(2)
        one.stream_comes(0, 1)
        self.assertEqual(view_of(other), (2, (), (), 0, ()))
        self.assertEqual(other.stream_comes(2, 1), 1)
        other.meters_come([1])
        other.day_passes([5, -5], [(1, 5)])
        self.assertEqual(view_of(one), (2, ((1, 0, 1, False),), (("stream comes", 0, 1),), 0, ()))
        one.take_back()
        self.assertEqual(other.layout(), ((1, 2, 1, True),))
        self.assertEqual(other.days_gone(), 1)


class StreamsTest(RefusingTest):
    def test_numbers_from_one_on(self):
        cellar = Cellar(3)
        joins = ((0, 1), (1, 2), (3, 0), (1, 2), (2, 1))
        for at, (source, target) in enumerate(joins):
            number = cellar.stream_comes(source, target)
            self.assertIs(type(number), int)
            self.assertEqual(number, at + 1)
            self.assertEqual(cellar.deeds()[-1], ("stream comes", source, target))
        self.assertEqual(cellar.layout(), tuple((at + 1, *join, False) for at, join in enumerate(joins)))

    def test_every_place(self):
        for tanks in range(8):
            cellar = Cellar(tanks)
            for source, target in itertools.product(range(-2, tanks + 3), repeat=2):
                if not (0 <= source <= tanks and 0 <= target <= tanks):
                    self.assert_not_done(UnknownPlace, cellar, "stream comes", source, target)
                elif source == target:
                    self.assert_not_done(SamePlace, cellar, "stream comes", source, target)
                else:
                    self.assertEqual(cellar.stream_comes(source, target), 1)
                    self.assertEqual(cellar.layout(), ((1, source, target, False),))
                    cellar.take_back()

    def test_places_far_off(self):
        cellar = Cellar(7)
        for place in HUGE:
            for source, target in ((place, 1), (0, place), (place, place)):
                self.assert_not_done(UnknownPlace, cellar, "stream comes", source, target)

    def test_twelve_streams_and_one_more(self):
        cellar = with_streams(2, 12)
        self.assertEqual(len(cellar.layout()), 12)
        self.assert_not_done(TooManyStreams, cellar, "stream comes", 0, 1)
        cellar.stream_goes(5)
        self.assertEqual(cellar.stream_comes(2, 1), 13)
        self.assert_not_done(TooManyStreams, cellar, "stream comes", 0, 1)
        self.assertEqual([line[0] for line in cellar.layout()], [1, 2, 3, 4, 6, 7, 8, 9, 10, 11, 12, 13])

    def test_no_number_comes_again(self):
        cellar = Cellar(1)
        for number in range(1, 31):
            self.assertEqual(cellar.stream_comes(0, 1), number)
            self.assertIs(cellar.stream_goes(number), None)
            self.assertEqual(cellar.layout(), ())
        self.assertEqual(len(cellar.deeds()), 60)

    def test_a_stream_goes_from_any_place_of_the_row(self):
        for gone in range(1, 5):
            cellar = with_streams(2, 4)
            cellar.stream_goes(gone)
            self.assertEqual([line[0] for line in cellar.layout()], [n for n in range(1, 5) if n != gone])
            self.assertEqual(cellar.deeds()[-1], ("stream goes", gone))
            self.assert_not_done(UnknownStream, cellar, "stream goes", gone)
            self.assertEqual(cellar.stream_comes(0, 1), 5)

    def test_its_meter_goes_with_it(self):
        cellar = with_streams(2, 11, range(1, 11))
        cellar.stream_goes(4)
        self.assertEqual([line[0] for line in cellar.layout() if line[3]], [1, 2, 3, 5, 6, 7, 8, 9, 10])
        # The meter that went no longer counts, and the day asks for no reading of it.
        cellar.meters_come([11])
        self.assertEqual(cellar.day_passes([0, 0], [(n, 0) for n in (1, 2, 3, 5, 6, 7, 8, 9, 10, 11)]), 1)

    def test_streams_that_are_not_there(self):
        cellar = with_streams(2, 3)
        for number in (0, -1, 4, 60, *HUGE):
            self.assert_not_done(UnknownStream, cellar, "stream goes", number)
        cellar.stream_goes(2)
        self.assert_not_done(UnknownStream, cellar, "stream goes", 2)
        cellar.stream_comes(0, 1)
        cellar.take_back()
        self.assert_not_done(UnknownStream, cellar, "stream goes", 4)
        self.assert_rows_not_done(UnknownStream, cellar, "meters come", (4,))
        self.assert_rows_not_done(UnknownStream, cellar, "day passes", (0, 0), ((2, 0),))

    def test_several_refusals_at_once(self):
        full = with_streams(2, 12)
        last = with_streams(2, 12)
        fill_deeds(last)
        few = Cellar(2)
        fill_deeds(few)
        for cellar in (full, last):
            self.assert_not_done(UnknownPlace, cellar, "stream comes", 3, 3)
            self.assert_not_done(UnknownPlace, cellar, "stream comes", 0, -1)
            self.assert_not_done(SamePlace, cellar, "stream comes", 2, 2)
            self.assert_not_done(TooManyStreams, cellar, "stream comes", 2, 1)
        self.assert_not_done(UnknownPlace, few, "stream comes", 3, 0)
        self.assert_not_done(SamePlace, few, "stream comes", 0, 0)
        self.assert_not_done(TooManyDeeds, few, "stream comes", 0, 1)
        self.assert_not_done(UnknownStream, last, "stream goes", 13)
        self.assert_not_done(TooManyDeeds, last, "stream goes", 12)


class MetersTest(RefusingTest):
    def metered(self, cellar):
        return tuple(line[0] for line in cellar.layout() if line[3])

    def test_come_and_go_in_any_order_and_form(self):
        for size in range(4):
            for numbers in itertools.permutations((1, 2, 4), size):
                for (row,) in in_all_forms(numbers):
                    cellar = with_streams(2, 4)
                    self.assertIs(answer_unchanged(self, cellar.meters_come, row), None)
                    self.assertEqual(self.metered(cellar), tuple(sorted(numbers)))
                    self.assertEqual(cellar.deeds()[-1], ("meters come", numbers))
                    cellar.meters_come([3])
                    self.assertIs(answer_unchanged(self, cellar.meters_go, row), None)
                    self.assertEqual(self.metered(cellar), (3,))
                    self.assertEqual(cellar.deeds()[-1], ("meters go", numbers))

    def test_an_empty_row_is_a_deed(self):
        cellar = Cellar(1)
        for row in ([], ()):
            cellar.meters_come(row)
            cellar.meters_go(row)
        self.assertEqual(cellar.deeds(), (("meters come", ()), ("meters go", ())) * 2)
        self.assertEqual(cellar.take_back(), ("meters go", ()))

    def test_ten_meters_and_one_more(self):
        cellar = with_streams(3, 12, tuple(range(10, 0, -1)))
        self.assertEqual(len(self.metered(cellar)), 10)
        self.assert_rows_not_done(TooManyMeters, cellar, "meters come", (11,))
        self.assert_rows_not_done(TooManyMeters, cellar, "meters come", (12, 11))
        cellar.meters_come([])
        cellar.meters_go([3])
        self.assert_rows_not_done(TooManyMeters, cellar, "meters come", (11, 12))
        cellar.meters_come([12])
        self.assert_rows_not_done(TooManyMeters, cellar, "meters come", (3,))
        cellar.meters_go(list(range(4, 11)))
        cellar.meters_come((3, 4, 5, 6, 7, 8, 9))
        self.assertEqual(self.metered(cellar), (1, 2, 3, 4, 5, 6, 7, 8, 9, 12))

    def test_eleven_at_once(self):
        cellar = with_streams(3, 12)
        self.assert_rows_not_done(TooManyMeters, cellar, "meters come", range(1, 12))
        cellar.meters_come(list(range(2, 12)))
        self.assertEqual(self.metered(cellar), tuple(range(2, 12)))

    def test_come_each_refusal(self):
        cellar = with_streams(2, 4, (1, 3))
        for number in (0, -1, 5, 60, *HUGE):
            self.assert_rows_not_done(UnknownStream, cellar, "meters come", (number,))
            self.assert_rows_not_done(UnknownStream, cellar, "meters come", (2, number, 4))
        self.assert_rows_not_done(Twice, cellar, "meters come", (2, 2))
        self.assert_rows_not_done(Twice, cellar, "meters come", (2, 4, 2))
        self.assert_rows_not_done(AlreadyMetered, cellar, "meters come", (1,))
        self.assert_rows_not_done(AlreadyMetered, cellar, "meters come", (2, 4, 3))

    def test_go_each_refusal(self):
        cellar = with_streams(2, 4, (1, 3))
        for number in (0, -1, 5, 60, *HUGE):
            self.assert_rows_not_done(UnknownStream, cellar, "meters go", (number,))
            self.assert_rows_not_done(UnknownStream, cellar, "meters go", (1, number, 3))
        self.assert_rows_not_done(Twice, cellar, "meters go", (1, 1))
        self.assert_rows_not_done(Twice, cellar, "meters go", (1, 3, 1))
        self.assert_rows_not_done(NotMetered, cellar, "meters go", (2,))
        self.assert_rows_not_done(NotMetered, cellar, "meters go", (1, 3, 4))

    def assert_each_order(self, refusal, cellar, kind, numbers):
        for order in sorted(set(itertools.permutations(numbers))):
            self.assert_rows_not_done(refusal, cellar, kind, order)

    def test_pairs_of_refusals_when_meters_come(self):
        # 11 and 12 have no meter, and one more meter may come; 13 is not there.
        few = with_streams(2, 12, range(1, 10))
        last = with_streams(2, 12, range(1, 10))
        fill_deeds(last)
        for cellar in (few, last):
            self.assert_each_order(UnknownStream, cellar, "meters come", (13, 11, 11))
            self.assert_each_order(UnknownStream, cellar, "meters come", (13, 13))
            self.assert_each_order(UnknownStream, cellar, "meters come", (13, 1))
            self.assert_each_order(UnknownStream, cellar, "meters come", (13, 11, 12))
            self.assert_each_order(Twice, cellar, "meters come", (1, 11, 11))
            self.assert_each_order(Twice, cellar, "meters come", (1, 1))
            self.assert_each_order(Twice, cellar, "meters come", (11, 11, 12))
            self.assert_each_order(AlreadyMetered, cellar, "meters come", (1, 11, 12))
            self.assert_each_order(TooManyMeters, cellar, "meters come", (10, 11, 12))
            self.assert_each_order(UnknownStream, cellar, "meters come", (13, 1, 11, 11, 12))
        for row in ((), (11,)):
            self.assert_rows_not_done(TooManyDeeds, last, "meters come", row)

    def test_pairs_of_refusals_when_meters_go(self):
        few = with_streams(2, 4, (1, 3))
        last = with_streams(2, 4, (1, 3))
        fill_deeds(last)
        for cellar in (few, last):
            self.assert_each_order(UnknownStream, cellar, "meters go", (5, 1, 1))
            self.assert_each_order(UnknownStream, cellar, "meters go", (5, 5))
            self.assert_each_order(UnknownStream, cellar, "meters go", (5, 2, 1))
            self.assert_each_order(UnknownStream, cellar, "meters go", (5, 2, 2, 1))
            self.assert_each_order(Twice, cellar, "meters go", (1, 1, 2))
            self.assert_each_order(Twice, cellar, "meters go", (2, 2, 1))
            self.assert_each_order(NotMetered, cellar, "meters go", (1, 2, 3))
        for row in ((), (1,)):
            self.assert_rows_not_done(TooManyDeeds, last, "meters go", row)

    def test_every_row_of_few_numbers(self):
        for kind in ("meters come", "meters go"):
            record = Record(1)
            cellar = Cellar(1)
            deeds = [("stream comes", 0, 1)] * 12
            deeds += [("stream goes", 2), ("meters come", (1, 3, 5, 6, 7, 8, 9, 10))]
            for deed in deeds:
                assert_done(self, cellar, record, deed)
            for size in range(5):
                for numbers in itertools.product((1, 2, 3, 4, 11, 12), repeat=size):
                    if not assert_done(self, cellar, record, (kind, numbers)):
                        self.assertEqual(cellar.take_back(), (kind, numbers))
                        record.deeds.pop()

    def test_rows_of_a_hundred(self):
        cellar = with_streams(2, 4, (1,))
        self.assert_rows_not_done(Twice, cellar, "meters come", (2,) * 100)
        self.assert_rows_not_done(UnknownStream, cellar, "meters come", (1,) * 99 + (9,))
        self.assert_rows_not_done(Twice, cellar, "meters go", (1,) * 50 + (2,) * 50)


class DaysTest(RefusingTest):
    def small(self):
        """Two tanks, streams 1 to 4, meters at 1 and 3."""
        return cellar_of(
            2, ("stream comes", 0, 1), ("stream comes", 1, 2), ("stream comes", 2, 0), ("stream comes", 0, 2),
            ("meters come", (3, 1)),
        )

    def test_the_day_told(self):
        streams = ((1, 0, 1), (2, 1, 2), (3, 2, 0), (4, 0, 2))
        for rises, readings in in_all_forms((18, 5), ((3, 7), (1, 30))):
            cellar = self.small()
            number = answer_unchanged(self, cellar.day_passes, rises, readings)
            self.assertEqual(number, 1)
            self.assertIs(type(number), int)
            self.assertIs(type(cellar.day(1)), Day)
            self.assertEqual(facts_of(cellar.day(1)), (2, streams, (18, 5), ((1, 30), (3, 7))))
            self.assertEqual(cellar.deeds()[-1], ("day passes", (18, 5), ((3, 7), (1, 30))))
            self.assertEqual(cellar.days_gone(), 1)
            assert_day_questions(self, cellar, 1, (2, streams, (18, 5), ((1, 30), (3, 7))))

    def test_without_streams(self):
        cellar = Cellar(3)
        self.assertEqual(cellar.day_passes([0, 0, 0], []), 1)
        self.assertEqual(cellar.day_passes([0, 4, -4], ()), 2)
        self.assertEqual(cellar.clashes(1), ())
        self.assertEqual(cellar.clashes(2), (((2,), 4, 0), ((3,), -4, 0)))

    def test_twelve_days_and_one_more(self):
        cellar = self.small()
        for number in range(1, 13):
            self.assertEqual(cellar.day_passes((number, 0), ((1, 5), (3, -number))), number)
            self.assertEqual(cellar.days_gone(), number)
        self.assert_rows_not_done(TooManyDays, cellar, "day passes", (0, 0), ((1, 5), (3, 5)))
        for number in range(1, 13):
            self.assertEqual(cellar.day(number).rises, (number, 0))
            self.assertEqual(cellar.day(number).readings, ((1, 5), (3, -number)))
        assert_no_such_days(self, cellar)
        cellar.take_back()
        self.assertEqual(cellar.day_passes((77, 0), ((1, 5), (3, 5))), 12)
        self.assertEqual(cellar.day(12).rises, (77, 0))

    def test_each_refusal(self):
        cellar = self.small()
        fine = ((3, 7), (1, 30))
        for rises in ((), (1,), (1, 2, 3), (0,) * 100):
            self.assert_rows_not_done(WrongRises, cellar, "day passes", rises, fine)
        for number in (0, -1, 5, 60, *HUGE):
            for at in range(3):
                readings = fine[:at] + ((number, 0),) + fine[at:]
                self.assert_rows_not_done(UnknownStream, cellar, "day passes", (1, 2), readings)
        for again in ((1, 30), (1, 31), (3, 7), (3, 0)):
            for at in range(3):
                self.assert_rows_not_done(Twice, cellar, "day passes", (1, 2), fine[:at] + (again,) + fine[at:])
        for number in (2, 4):
            for at in range(3):
                readings = fine[:at] + ((number, 0),) + fine[at:]
                self.assert_rows_not_done(NotMetered, cellar, "day passes", (1, 2), readings)
        for readings in ((), fine[:1], fine[1:]):
            self.assert_rows_not_done(ReadingMissing, cellar, "day passes", (1, 2), readings)
        self.assertEqual(cellar.day_passes((1, 2), fine), 1)

    def test_bounds(self):
        cellar = self.small()
        for edge in (-1000, 1000):
            cellar.day_passes((edge, -edge), ((1, edge), (3, -edge)))
            self.assertEqual(cellar.day(cellar.days_gone()).rises, (edge, -edge))
        for beyond in (-1001, 1001, 5000, *HUGE):
            for at in range(4):
                amounts = [0, 1000, -1000, 5]
                amounts[at] = beyond
                rises, readings = tuple(amounts[:2]), ((1, amounts[2]), (3, amounts[3]))
                self.assert_rows_not_done(OutOfRange, cellar, "day passes", rises, readings)

    def test_sixty_deeds_and_one_more(self):
        cellar = self.small()
        fill_deeds(cellar)
        self.assertEqual(len(cellar.deeds()), 60)
        deeds = (
            ("stream comes", 0, 1), ("stream goes", 1), ("meters come", (2,)), ("meters come", ()),
            ("meters go", (1,)), ("meters go", ()), ("day passes", (1, 2), ((1, 30), (3, 7))),
        )
        for deed in deeds:
            self.assert_not_done(TooManyDeeds, cellar, *deed)
        for deed in deeds:
            cellar.take_back()
            do(cellar, deed)
            self.assertEqual(len(cellar.deeds()), 60)
            self.assertEqual(cellar.deeds()[-1], deed)
            self.assert_not_done(TooManyDeeds, cellar, "meters come", ())
            cellar.take_back()
            cellar.meters_come([])

    def faulty_day(self, faults, chance):
        """A cellar, rises and readings with just these faults at once."""
        cellar = self.small()
        readings = [(1, 30), (3, 7)]
        rises = [1, 2]
        if OutOfRange in faults:
            where = chance.choice((rises, readings))
            where[0] = 1001 if where is rises else (1, -1001)
        if ReadingMissing in faults:
            readings = [chance.choice(readings)] if OutOfRange not in faults else readings[:1]
        if Twice in faults:
            readings.append(chance.choice(readings))
        if UnknownStream in faults:
            readings.append((chance.choice((0, 5, -3)), 0))
        if NotMetered in faults:
            readings.append((chance.choice((2, 4)), 0))
        if WrongRises in faults:
            rises.append(0)
        if TooManyDays in faults:
            for number in range(12):
                cellar.day_passes((0, 0), ((1, 0), (3, 0)))
        if TooManyDeeds in faults:
            fill_deeds(cellar)
        chance.shuffle(readings)
        return cellar, tuple(rises), tuple(readings)

    def test_any_refusals_at_once(self):
        chance = random.Random(24)
        kinds = (
            WrongRises, UnknownStream, Twice, NotMetered, ReadingMissing, OutOfRange, TooManyDays, TooManyDeeds,
        )
        for size in range(1, len(kinds) + 1):
            for faults in itertools.combinations(kinds, size):
                for again in range(4):
                    cellar, rises, readings = self.faulty_day(faults, chance)
                    self.assert_rows_not_done(faults[0], cellar, "day passes", rises, readings)

    def test_the_order_of_the_kinds_is_that_of_the_document(self):
        self.assertEqual([kind.__name__ for kind in REFUSALS], [
            "BadTanks", "UnknownDay", "UnknownPlace", "SamePlace", "WrongRises", "UnknownStream", "Twice",
            "AlreadyMetered", "NotMetered", "ReadingMissing", "OutOfRange", "TooManyStreams", "TooManyMeters",
            "TooManyDays", "TooManyDeeds", "NothingDone", "Clashing",
        ])

    def test_meters_that_came_and_went(self):
        cellar = self.small()
        cellar.meters_go([1])
        self.assert_rows_not_done(NotMetered, cellar, "day passes", (1, 2), ((3, 7), (1, 30)))
        cellar.day_passes((1, 2), ((3, 7),))
        cellar.meters_come([1, 2])
        self.assert_rows_not_done(ReadingMissing, cellar, "day passes", (1, 2), ((3, 7), (1, 30)))
        cellar.stream_goes(3)
        self.assert_rows_not_done(UnknownStream, cellar, "day passes", (1, 2), ((3, 7), (1, 30), (2, 1)))
        cellar.day_passes((1, 2), ((2, 7), (1, 30)))
        self.assertEqual([cellar.day(number).readings for number in (1, 2)], [((3, 7),), ((1, 30), (2, 7))])


class TakingBackTest(unittest.TestCase):
    DEEDS = (
        ("stream comes", 0, 1), ("stream comes", 1, 2), ("meters come", ()), ("meters come", (2, 1)),
        ("day passes", (5, 6), ((2, 1), (1, 9))), ("stream goes", 2), ("stream comes", 2, 0), ("meters come", (3,)),
        ("day passes", (1, 1), ((1, 1), (3, 2))), ("meters go", (3, 1)), ("meters go", ()), ("stream goes", 1),
        ("stream goes", 3), ("day passes", (0, 0), ()), ("stream comes", 2, 1),
    )

    def test_every_kind_of_deed_until_none_is_left(self):
        cellar = Cellar(2)
        views = []
        for deed in self.DEEDS:
            views.append(view_of(cellar))
            do(cellar, deed)
            assert_refused(self, UnknownStream, cellar.stream_goes, 61)
        self.assertEqual(cellar.deeds(), self.DEEDS)
        for deed, view in zip(self.DEEDS[::-1], views[::-1]):
            told = cellar.take_back()
            self.assertEqual(told, deed)
            assert_told(self, told)
            self.assertEqual(view_of(cellar), view)
        for again in range(3):
            assert_refused(self, NothingDone, cellar.take_back)
            self.assertEqual(view_of(cellar), (2, (), (), 0, ()))
        for base in (CellarError, ValueError):
            with self.assertRaises(base):
                cellar.take_back()

    def test_each_deed_taken_back_and_done_again(self):
        cellar = Cellar(2)
        for deed in self.DEEDS:
            before = view_of(cellar)
            answer = do(cellar, deed)
            behind = view_of(cellar)
            self.assertEqual(cellar.take_back(), deed)
            self.assertEqual(view_of(cellar), before)
            self.assertEqual(do(cellar, deed), answer)
            self.assertEqual(view_of(cellar), behind)

    def test_the_next_number(self):
        cellar = Cellar(2)
        self.assertEqual(cellar.stream_comes(0, 1), 1)
        self.assertEqual(cellar.stream_comes(0, 2), 2)
        cellar.take_back()
        self.assertEqual(cellar.stream_comes(1, 2), 2)
        self.assertEqual(cellar.layout(), ((1, 0, 1, False), (2, 1, 2, False)))
        cellar.stream_goes(2)
        cellar.take_back()
        self.assertEqual(cellar.stream_comes(1, 0), 3)
        cellar.stream_goes(3)
        self.assertEqual(cellar.stream_comes(1, 0), 4)
        for back in range(3):
            cellar.take_back()
        self.assertEqual(cellar.stream_comes(2, 0), 3)

    def test_a_meter_that_went_with_its_stream(self):
        cellar = with_streams(1, 3, (3, 2))
        cellar.stream_goes(2)
        self.assertEqual(cellar.layout(), ((1, 0, 1, False), (3, 0, 1, True)))
        self.assertEqual(cellar.take_back(), ("stream goes", 2))
        self.assertEqual(cellar.layout(), ((1, 0, 1, False), (2, 0, 1, True), (3, 0, 1, True)))
        cellar.stream_goes(1)
        cellar.take_back()
        self.assertEqual(cellar.layout(), ((1, 0, 1, False), (2, 0, 1, True), (3, 0, 1, True)))
        self.assertEqual(cellar.day_passes((0,), ((2, 1), (3, 1))), 1)

    def test_the_number_of_days(self):
        cellar = Cellar(1)
        for rise in (1, 2, 3):
            cellar.day_passes((rise,), ())
        self.assertEqual(cellar.take_back(), ("day passes", (3,), ()))
        self.assertEqual(cellar.days_gone(), 2)
        assert_refused(self, UnknownDay, cellar.day, 3)
        self.assertEqual(cellar.day_passes((4,), ()), 3)
        self.assertEqual([cellar.day(number).rises for number in (1, 2, 3)], [(1,), (2,), (4,)])

    def test_a_day_held_outside_stays(self):
        cellar = with_streams(1, 2, (1,))
        cellar.day_passes((4,), ((1, 5),))
        day = cellar.day(1)
        cellar.take_back()
        cellar.take_back()
        cellar.stream_goes(1)
        self.assertEqual(facts_of(day), (1, ((1, 0, 1), (2, 0, 1)), (4,), ((1, 5),)))

    def test_takings_back_are_no_deeds(self):
        cellar = Cellar(1)
        for again in range(100):
            cellar.stream_comes(0, 1)
            cellar.meters_come((1,))
            self.assertEqual(cellar.deeds(), (("stream comes", 0, 1), ("meters come", (1,))))
            self.assertEqual(cellar.take_back(), ("meters come", (1,)))
            self.assertEqual(cellar.deeds(), (("stream comes", 0, 1),))
            self.assertEqual(cellar.take_back(), ("stream comes", 0, 1))
            self.assertEqual(cellar.deeds(), ())

    def test_refused_deeds_are_not_taken_back(self):
        cellar = with_streams(1, 1)
        cellar.meters_come([1])
        assert_refused(self, AlreadyMetered, cellar.meters_come, [1])
        assert_refused(self, ReadingMissing, cellar.day_passes, [0], [])
        self.assertEqual(cellar.take_back(), ("meters come", (1,)))
        self.assertEqual(cellar.take_back(), ("stream comes", 0, 1))
        assert_refused(self, NothingDone, cellar.take_back)

    def test_sixty_taken_back(self):
        cellar = Cellar(1)
        fill_deeds(cellar)
        assert_refused(self, TooManyDeeds, cellar.stream_comes, 0, 1)
        for left in range(59, -1, -1):
            self.assertEqual(cellar.take_back(), ("meters come", ()))
            self.assertEqual(len(cellar.deeds()), left)
        assert_refused(self, NothingDone, cellar.take_back)
        self.assertEqual(cellar.stream_comes(0, 1), 1)


class DeedsTest(unittest.TestCase):
    def test_in_the_order_done_and_as_handed_in(self):
        cellar = Cellar(2)
        for deed in TakingBackTest.DEEDS:
            do(cellar, deed)
        self.assertEqual(cellar.deeds(), TakingBackTest.DEEDS)
        assert_told(self, cellar.deeds())

    def test_rows_handed_in_may_change_later(self):
        for change in (list.clear, lambda row: row.insert(0, row[0]), list.reverse):
            cellar = with_streams(2, 3)
            come, rises, readings, go = [2, 1], [4, 8], [(2, 5), (1, 6)], [1, 2]
            cellar.meters_come(come)
            cellar.day_passes(rises, readings)
            cellar.meters_go(go)
            record = Record(2)
            record.deeds = [("stream comes", 0, 1), ("stream comes", 0, 2), ("stream comes", 0, 1)]
            record.deeds += [("meters come", (2, 1)), ("day passes", (4, 8), ((2, 5), (1, 6))), ("meters go", (1, 2))]
            assert_cellar(self, cellar, record)
            day, clashes = cellar.day(1), cellar.clashes(1)
            for row in (come, rises, readings, go):
                change(row)
            assert_cellar(self, cellar, record)
            self.assertEqual(facts_of(day), record.told()[4][0])
            self.assertEqual(cellar.clashes(1), clashes)
            assert_day_questions(self, cellar, 1, record.told()[4][0])
            for deed in record.deeds[::-1]:
                self.assertEqual(cellar.take_back(), deed)

    def test_told_earlier_stays(self):
        cellar = Cellar(2)
        views = []
        for deed in TakingBackTest.DEEDS:
            do(cellar, deed)
            views.append((view_of(cellar), cellar.deeds(), cellar.layout()))
        for at, (view, deeds, layout) in enumerate(views):
            self.assertEqual(deeds, TakingBackTest.DEEDS[:at + 1])
            self.assertEqual((view[1], view[2]), (layout, deeds))


class QuestionsTest(unittest.TestCase):
    def test_each_day_by_what_it_had(self):
        cellar = cellar_of(2, ("stream comes", 0, 1), ("stream comes", 1, 2), ("meters come", (1,)))
        cellar.day_passes((3, 4), ((1, 7),))
        cellar.stream_comes(2, 0)
        cellar.day_passes((3, 4), ((1, 9),))
        cellar.meters_come((3, 2))
        cellar.day_passes((3, 4), ((1, 9), (2, 5), (3, 2)))
        cellar.stream_goes(1)
        cellar.day_passes((-4, 4), ((2, 4), (3, 0)))
        two, three = ((1, 0, 1), (2, 1, 2)), ((1, 0, 1), (2, 1, 2), (3, 2, 0))
        right = (
            (2, two, (3, 4), ((1, 7),)), (2, three, (3, 4), ((1, 9),)),
            (2, three, (3, 4), ((1, 9), (2, 5), (3, 2))), (2, ((2, 1, 2), (3, 2, 0)), (-4, 4), ((2, 4), (3, 0))),
        )
        for later in (("stream goes", 2), ("stream goes", 3), ("stream comes", 1, 0), ("meters come", (4,))):
            for number, parts in enumerate(right, start=1):
                assert_day_questions(self, cellar, number, parts)
            do(cellar, later)
        for back in range(4):
            cellar.take_back()
            for number, parts in enumerate(right, start=1):
                assert_day_questions(self, cellar, number, parts)
        self.assertIn(cellar.told(1, 2), (("known", 4, (1,), ()), ("known", 4, (2,), ())))
        self.assertEqual(cellar.setting(2), ((1, 9), (2, 6), (3, 2)))
        self.assertEqual(cellar.clashes(3), (((1,), 3, 4), ((2,), 4, 3)))
        self.assertEqual(cellar.doubts(3), ((2,), ()))
        self.assertEqual(cellar.told(4, 3), ("metered", 0, (), ()))
        self.assertEqual([cellar.lacking(number) for number in (1, 3, 4)], [(), (), ()])

    def test_lacking_and_open(self):
        cellar = with_streams(1, 3, (2,))
        cellar.day_passes((5,), ((2, 1),))
        self.assertIn(cellar.lacking(1), ((1,), (3,)))
        self.assertEqual(cellar.told(1, 1), ("open", None, (), ((1, 1), (3, -1))))

    def test_unknown_day_ahead_of_unknown_stream_ahead_of_clashing(self):
        cellar = with_streams(1, 2, (1, 2))
        cellar.day_passes((5,), ((1, 1), (2, 1)))
        cellar.stream_comes(0, 1)
        self.assertNotEqual(cellar.clashes(1), ())
        assert_no_such_days(self, cellar, (1, 2, 3))
        for stream in (0, 3, 4, -1, 61, *HUGE):
            assert_refused(self, UnknownStream, cellar.told, 1, stream)
        for stream in (1, 2):
            assert_refused(self, Clashing, cellar.told, 1, stream)
        assert_refused(self, Clashing, cellar.setting, 1)
        for base in (CellarError, ValueError):
            for asked in ((cellar.told, 2, 1), (cellar.told, 1, 3), (cellar.told, 1, 1), (cellar.day, 0)):
                with self.assertRaises(base):
                    asked[0](*asked[1:])

    def test_a_day_that_was_taken_back(self):
        cellar = with_streams(1, 1)
        cellar.day_passes((5,), ())
        self.assertEqual(cellar.setting(1), ((1, 5),))
        cellar.take_back()
        assert_no_such_days(self, cellar)
        self.assertEqual(cellar.day_passes((6,), ()), 1)
        self.assertEqual(cellar.setting(1), ((1, 6),))

    def test_a_stream_that_went_or_came_later(self):
        cellar = with_streams(1, 2)
        cellar.stream_goes(1)
        cellar.day_passes((5,), ())
        cellar.stream_comes(0, 1)
        for stream in (1, 3):
            assert_refused(self, UnknownStream, cellar.told, 1, stream)
        cellar.stream_goes(2)
        self.assertEqual(cellar.told(1, 2), ("known", 5, (1,), ()))

    def test_a_day_may_be_doubted_without_changing_it(self):
        cellar = with_streams(1, 2, (1, 2))
        cellar.day_passes((5,), ((1, 1), (2, 1)))
        self.assertEqual(cellar.day(1).doubting([1, 2]).readings, ())
        self.assertEqual(cellar.day(1).readings, ((1, 1), (2, 1)))
        self.assertEqual(cellar.doubts(1), ((1,), ()))
        self.assertEqual(cellar.day(1).readings, ((1, 1), (2, 1)))


if __name__ == "__main__":
    unittest.main()
