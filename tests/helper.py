"""What several test files need: rows in both forms, days of many shapes, and plain checks of the points."""

import copy
import itertools
import random

from tankbalance import errors
from tankbalance.days import Day


def in_all_forms(*rows):
    """The rows handed in, each as a list and as a tuple, in every mixture."""
    return itertools.product(*[(list(row), tuple(row)) for row in rows])


def answer_unchanged(case, function, *arguments):
    """The function's answer; the arguments must be as before behind the call."""
    before = copy.deepcopy(arguments)
    answer = function(*arguments)
    case.assertEqual(arguments, before)
    for now, then in zip(arguments, before):
        case.assertIs(type(now), type(then))
    return answer


def assert_told(case, told, others=()):
    """Only tuples, whole numbers and texts may be told, at every depth, beside the other kinds that are named."""
    case.assertIn(type(told), (tuple, int, str, *others))
    if type(told) is tuple:
        for thing in told:
            assert_told(case, thing, others)


def small_nets(places, most):
    """Every row of at most so many streams between the places; numbers neither rising nor from 1."""
    numbers = (9, 4, 30, 1)
    joins = list(itertools.permutations(places, 2))
    for size in range(most + 1):
        for chosen in itertools.product(joins, repeat=size):
            yield tuple((numbers[at], source, target) for at, (source, target) in enumerate(chosen))


def tied_pairs(places, streams):
    """Which places are tied, by closing the relation: another way of reckoning than the program's."""
    tied = {(place, place) for place in places}
    for number, source, target in streams:
        tied |= {(source, target), (target, source)}
    for middle, one, other in itertools.product(places, repeat=3):
        if (one, middle) in tied and (middle, other) in tied:
            tied.add((one, other))
    return tied


def assert_way(case, streams, start, goal, way):
    """Hold a way against every sentence of point 5."""
    case.assertIs(type(way), tuple)
    ends = {number: (source, target) for number, source, target in streams}
    passed = [start]
    for step in way:
        case.assertIs(type(step), tuple)
        case.assertEqual([type(part) for part in step], [int, int])
        number, direction = step
        case.assertIn(number, ends)
        case.assertIn(direction, (1, -1))
        first, last = ends[number][::direction]
        case.assertEqual(passed[-1], first)
        passed.append(last)
    case.assertEqual(passed[-1], goal)
    case.assertEqual(len(set(passed)), len(passed))


def facts_of(day):
    return (day.tanks, day.streams, day.rises, day.readings)


def asked_of(case, function, day, *arguments):
    """The function's answer about a day, which must be as before behind the call, also where it is refused."""
    before = copy.deepcopy(facts_of(day))
    try:
        return function(day, *arguments)
    finally:
        case.assertEqual(facts_of(day), before)


def assert_refused(case, refusal, function, *arguments):
    """Refused with just this class; the words of the refusal can be had, whatever was handed in."""
    with case.assertRaises(ValueError) as caught:
        function(*arguments)
    case.assertIs(type(caught.exception), refusal)
    case.assertIsInstance(str(caught.exception), str)


def plain_without_meter(parts):
    tanks, streams, rises, readings = parts
    metered = [number for number, reading in readings]
    return [stream for stream in streams if stream[0] not in metered]


def plain_brought(streams, amounts, group):
    """Point 3, stream by stream."""
    brought = 0
    for number, source, target in streams:
        if number in amounts:
            brought += amounts[number] * ((target in group) - (source in group))
    return brought


def plain_clashes(parts):
    """Point 9, from the tied pairs."""
    tanks, streams, rises, readings = parts
    tied = tied_pairs(range(tanks + 1), plain_without_meter(parts))
    clashes = []
    for tank in range(1, tanks + 1):
        bunch = tuple(place for place in range(tanks + 1) if (tank, place) in tied)
        if bunch[0] == tank:
            rise = sum(rises[member - 1] for member in bunch)
            brought = plain_brought(streams, dict(readings), bunch)
            if rise != brought:
                clashes.append((bunch, rise, brought))
    return tuple(clashes)


def all_groups(tanks):
    for size in range(1, tanks + 1):
        yield from itertools.combinations(range(1, tanks + 1), size)


def plain_groups(parts):
    """Point 11, by trying every group of tanks: for each stream without meter the set of its groups."""
    unmetered = plain_without_meter(parts)
    groups = {number: set() for number, source, target in unmetered}
    for group in all_groups(parts[0]):
        crossing = [number for number, source, target in unmetered if (source in group) != (target in group)]
        if len(crossing) == 1:
            groups[crossing[0]].add(group)
    return groups


def assert_setting(case, parts, setting):
    """Hold a setting against every sentence of point 8."""
    tanks, streams, rises, readings = parts
    assert_told(case, setting)
    case.assertEqual([len(pair) for pair in setting], [2] * len(streams))
    case.assertEqual([number for number, amount in setting], sorted(stream[0] for stream in streams))
    amounts = dict(setting)
    for number, reading in readings:
        case.assertEqual(amounts[number], reading)
    for tank in range(1, tanks + 1):
        case.assertEqual(plain_brought(streams, amounts, (tank,)), rises[tank - 1])


def along(setting, ring, amount):
    """The setting with the amount added along the ring (point 12)."""
    amounts = dict(setting)
    for number, direction in ring:
        amounts[number] += direction * amount
    return tuple(sorted(amounts.items()))


def assert_ring(case, parts, number, ring):
    """Hold a ring that is not empty against every sentence of point 12."""
    case.assertIs(type(ring), tuple)
    case.assertEqual(ring[0], (number, 1))
    assert_told(case, ring)
    unmetered = plain_without_meter(parts)
    source, target = {stream[0]: stream[1:] for stream in unmetered}[number]
    others = [stream for stream in unmetered if stream[0] != number]
    assert_way(case, others, target, source, ring[1:])


def assert_known(case, parts, number, told, settings):
    """Hold what is told of a known stream against point 13."""
    tanks, streams, rises, readings = parts
    state, amount, group, ring = told
    case.assertEqual((state, ring), ("known", ()))
    case.assertIs(type(amount), int)
    assert_told(case, group)
    amounts = {**dict(readings), number: amount}
    crossing = [stream for stream in streams if (stream[1] in group) != (stream[2] in group)]
    case.assertTrue(all(stream[0] in amounts for stream in crossing))
    case.assertEqual(plain_brought(crossing, amounts, group), sum(rises[tank - 1] for tank in group))
    for setting in settings:
        case.assertEqual(dict(setting)[number], amount)


def assert_stream_told(case, parts, number, told, settings):
    """Hold what is told of a stream on a day without a clash against every sentence of point 13."""
    case.assertIs(type(told), tuple)
    case.assertEqual(len(told), 4)
    readings = dict(parts[3])
    groups = plain_groups(parts)
    if number in readings:
        case.assertEqual(told, ("metered", readings[number], (), ()))
    elif groups[number]:
        case.assertIn(told[2], groups[number])
        assert_known(case, parts, number, told, settings)
    else:
        case.assertEqual(told[:3], ("open", None, ()))
        assert_ring(case, parts, number, told[3])
    return told[0]


def plain_doubts(parts):
    """Point 14, by other means than the program's: the groups that can't be right, and the sets that meet them all.

    A group that streams with meters alone cross, and whose rise these don't bring, is right again just where one of
    these meters is doubted. The answer is None where there is such a group that no stream crosses.
    """
    tanks, streams, rises, readings = parts
    metered = dict(readings)
    wrong = set()
    for group in all_groups(tanks):
        crossing = frozenset(stream[0] for stream in streams if (stream[1] in group) != (stream[2] in group))
        if crossing <= set(metered):
            if sum(rises[tank - 1] for tank in group) != plain_brought(streams, metered, group):
                wrong.add(crossing)
    if frozenset() in wrong:
        return None
    for size in range(len(metered) + 1):
        for chosen in itertools.combinations(sorted(metered), size):
            if all(not crossing.isdisjoint(chosen) for crossing in wrong):
                return chosen


def assert_doubts(case, parts, told):
    """Hold which meters to doubt against every sentence of point 14."""
    assert_told(case, told)
    meters, group = told
    right = plain_doubts(parts)
    if right is not None:
        case.assertEqual(told, (right, ()))
        return
    case.assertEqual(meters, ())
    case.assertIn(group, list(all_groups(parts[0])))
    case.assertTrue(all((source in group) == (target in group) for number, source, target in parts[1]))
    case.assertNotEqual(sum(parts[2][tank - 1] for tank in group), 0)


def bunches_by_pairs(tanks, streams):
    tied = tied_pairs(range(tanks + 1), streams)
    return {tuple(other for other in range(tanks + 1) if (place, other) in tied) for place in range(tanks + 1)}


def assert_lacking(case, parts, told):
    """Hold where meters are lacking against every sentence of point 15."""
    tanks, streams, rises, readings = parts
    assert_told(case, told)
    case.assertEqual(list(told), sorted(set(told)))
    unmetered = plain_without_meter(parts)
    case.assertLessEqual(set(told), {stream[0] for stream in unmetered})
    remaining = [stream for stream in unmetered if stream[0] not in told]
    bunches = bunches_by_pairs(tanks, unmetered)
    case.assertEqual(bunches_by_pairs(tanks, remaining), bunches)
    # To tie a bunch of so many places takes one stream less, and no fewer.
    case.assertEqual(len(remaining), tanks + 1 - len(bunches))
    metered = readings + tuple((number, 0) for number in told)
    case.assertTrue(all(plain_groups((tanks, streams, rises, metered)).values()))


def settled_rises(tanks, streams, amounts):
    return tuple(plain_brought(streams, amounts, (tank,)) for tank in range(1, tanks + 1))


def drawn_parts():
    """Parts of days of every shape that point 6 allows: settled ones, ones with a rise that is off, any at all."""
    chance = random.Random(6)
    for tanks in range(8):
        for size in range(13 if tanks > 0 else 1):
            for meters in range(min(size, 10) + 1):
                numbers = chance.sample(range(1, 61), size)
                streams = tuple((number, *chance.sample(range(tanks + 1), 2)) for number in numbers)
                metered = chance.sample(numbers, meters)
                # 12 streams of 80 at most keep each rise within 1000.
                amounts = {number: chance.randint(-80, 80) for number in numbers}
                rises = settled_rises(tanks, streams, amounts)
                readings = tuple((number, amounts[number]) for number in metered)
                yield (tanks, streams, rises, readings)
                if tanks > 0:
                    off = list(rises)
                    off[chance.randrange(tanks)] += chance.choice((-40, -1, 1, 40))
                    yield (tanks, streams, tuple(off), readings)
                edges = (-1000, -999, 0, 999, 1000)
                yield (
                    tanks, streams, tuple(chance.choice(edges) for tank in rises),
                    tuple((number, chance.choice(edges)) for number in metered),
                )


def small_parts():
    """Parts of days of two tanks: every net of at most three streams, every choice of meters, settled and not."""
    for streams in small_nets((0, 1, 2), 3):
        amounts = {stream[0]: 10 ** at for at, stream in enumerate(streams)}
        rises = settled_rises(2, streams, amounts)
        for chosen in itertools.product((False, True), repeat=len(streams)):
            readings = tuple((s[0], amounts[s[0]]) for s, metered in zip(streams, chosen) if metered)
            for off in ((0, 0), (1, 0), (0, -1), (1, -1)):
                yield (2, streams, (rises[0] + off[0], rises[1] + off[1]), readings)


def many_days():
    """Each as its parts and the day made of them."""
    for parts in itertools.chain(drawn_parts(), small_parts()):
        yield parts, Day(*parts)


# The order of point 24.
REFUSALS = (
    errors.BadTanks, errors.UnknownDay, errors.UnknownPlace, errors.SamePlace, errors.WrongRises,
    errors.UnknownStream, errors.Twice, errors.AlreadyMetered, errors.NotMetered, errors.ReadingMissing,
    errors.OutOfRange, errors.TooManyStreams, errors.TooManyMeters, errors.TooManyDays, errors.TooManyDeeds,
    errors.NothingDone, errors.Clashing,
)


def first_of(due):
    return min(due, key=REFUSALS.index)


def do(cellar, deed):
    """The deed, as point 22 writes it, done in the cellar."""
    kinds = {
        "stream comes": cellar.stream_comes, "stream goes": cellar.stream_goes, "meters come": cellar.meters_come,
        "meters go": cellar.meters_go, "day passes": cellar.day_passes,
    }
    return kinds[deed[0]](*deed[1:])


class Record:
    """A plain record of a cellar: its deeds in a list, all else worked out from them anew at each asking."""

    def __init__(self, tanks):
        self.tanks = tanks
        self.deeds = []

    def state(self):
        """How many streams came, the streams by numbers, the numbers with meters, and the parts of all days."""
        came, streams, metered, days = 0, {}, set(), []
        for kind, *rest in self.deeds:
            if kind == "stream comes":
                came += 1
                streams[came] = (came, *rest)
            elif kind == "stream goes":
                del streams[rest[0]]
                metered.discard(rest[0])
            elif kind == "meters come":
                metered |= set(rest[0])
            elif kind == "meters go":
                metered -= set(rest[0])
            else:
                days.append((self.tanks, tuple(streams.values()), rest[0], tuple(sorted(rest[1]))))
        return came, streams, metered, days

    def due(self, deed):
        """Every refusal that is due for the deed (points 17 to 20 and 22)."""
        came, streams, metered, days = self.state()
        kind, *rest = deed
        due = {errors.TooManyDeeds} if len(self.deeds) == 60 else set()
        if kind == "stream comes":
            due |= {errors.UnknownPlace} if set(rest) - set(range(self.tanks + 1)) else set()
            due |= {errors.SamePlace} if rest[0] == rest[1] else set()
            due |= {errors.TooManyStreams} if len(streams) == 12 else set()
            return due
        if kind == "day passes":
            named = [number for number, reading in rest[1]]
        else:
            named = [rest[0]] if kind == "stream goes" else rest[0]
        due |= {errors.UnknownStream} if set(named) - set(streams) else set()
        due |= {errors.Twice} if len(set(named)) < len(named) else set()
        if kind == "meters come":
            due |= {errors.AlreadyMetered} if metered & set(named) else set()
            due |= {errors.TooManyMeters} if len(metered | set(named)) > 10 else set()
        if kind in ("meters go", "day passes"):
            due |= {errors.NotMetered} if set(named) & set(streams) - metered else set()
        if kind == "day passes":
            amounts = list(rest[0]) + [amount for number, amount in rest[1]]
            due |= {errors.WrongRises} if len(rest[0]) != self.tanks else set()
            due |= {errors.ReadingMissing} if metered - set(named) else set()
            due |= {errors.OutOfRange} if [a for a in amounts if not -1000 <= a <= 1000] else set()
            due |= {errors.TooManyDays} if len(days) == 12 else set()
        return due

    def told(self):
        """What a cellar with these deeds tells of itself, as view_of writes it."""
        came, streams, metered, days = self.state()
        layout = tuple((*streams[number], number in metered) for number in sorted(streams))
        return (self.tanks, layout, tuple(self.deeds), len(days), tuple(days))


def view_of(cellar):
    gone = cellar.days_gone()
    days = tuple(facts_of(cellar.day(number)) for number in range(1, gone + 1))
    return (cellar.tanks, cellar.layout(), cellar.deeds(), gone, days)


def assert_cellar(case, cellar, record):
    """Hold what the cellar tells of itself against the record."""
    view = view_of(cellar)
    case.assertEqual(view, record.told())
    assert_told(case, view, (bool,))
    case.assertTrue(all([type(part) for part in line] == [int, int, int, bool] for line in view[1]))


def assert_done(case, cellar, record, deed):
    """Do a deed in both: the cellar must answer or refuse as the record says, and be as the record is behind it."""
    due = record.due(deed)
    if due:
        assert_refused(case, first_of(due), do, cellar, deed)
    else:
        answer = do(cellar, deed)
        record.deeds.append(deed)
        came, streams, metered, days = record.state()
        right = {"stream comes": came, "day passes": len(days)}.get(deed[0])
        case.assertEqual(answer, right)
        case.assertIs(type(answer), type(right))
    assert_cellar(case, cellar, record)
    return due


def assert_day_questions(case, cellar, number, parts):
    """Hold all that is told of a day of the cellar against points 9 to 15 and 23."""
    before = view_of(cellar)
    case.assertEqual(facts_of(cellar.day(number)), parts)
    clashes = cellar.clashes(number)
    case.assertEqual(clashes, plain_clashes(parts))
    assert_told(case, clashes)
    numbers = [stream[0] for stream in parts[1]]
    if clashes:
        assert_refused(case, errors.Clashing, cellar.setting, number)
        for stream in numbers:
            assert_refused(case, errors.Clashing, cellar.told, number, stream)
    else:
        setting = cellar.setting(number)
        assert_setting(case, parts, setting)
        for stream in numbers:
            assert_stream_told(case, parts, stream, cellar.told(number, stream), [setting])
    assert_doubts(case, parts, cellar.doubts(number))
    assert_lacking(case, parts, cellar.lacking(number))
    for stream in set(range(-1, 62)) - set(numbers):
        assert_refused(case, errors.UnknownStream, cellar.told, number, stream)
    case.assertEqual(view_of(cellar), before)


def assert_no_such_days(case, cellar, streams=(1,)):
    """Every question about every number that no day has is refused with UnknownDay."""
    gone = cellar.days_gone()
    before = view_of(cellar)
    huge = (2 ** 70, -(2 ** 70), 10 ** 5000, -(10 ** 5000))
    for number in (0, -1, -2, -gone, -gone - 1, gone + 1, gone + 2, 13, 61, *huge):
        for question in (cellar.day, cellar.clashes, cellar.setting, cellar.doubts, cellar.lacking):
            assert_refused(case, errors.UnknownDay, question, number)
        for stream in (*streams, 0, -1, 61, 10 ** 5000):
            assert_refused(case, errors.UnknownDay, cellar.told, number, stream)
    case.assertEqual(view_of(cellar), before)
