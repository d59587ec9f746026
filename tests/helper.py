"""What several test files need: rows in both forms, days of many shapes, and plain checks of the points."""

import copy
import itertools
import random

from tankbalance.days import Day


def in_all_forms(*rows):
    """The rows handed in, each as a list and as a tuple, in every mixture."""
    return itertools.product(*[(list(row), tuple(row)) for row in rows])


def answer_unchanged(case, function, *arguments):
    """The function's answer; the arguments must be as before behind the call."""
    before = copy.deepcopy(arguments)
    answer = function(*arguments)
    case.assertEqual(arguments, before)
    for now, then in zip(arguments, before):
        case.assertIs(type(now), type(then))
    return answer


def assert_told(case, told):
    """Only tuples, whole numbers and texts may be told, at every depth."""
    case.assertIn(type(told), (tuple, int, str))
    if type(told) is tuple:
        for thing in told:
            assert_told(case, thing)


def small_nets(places, most):
    """Every row of at most so many streams between the places; numbers neither rising nor from 1."""
    numbers = (9, 4, 30, 1)
    joins = list(itertools.permutations(places, 2))
    for size in range(most + 1):
        for chosen in itertools.product(joins, repeat=size):
            yield tuple((numbers[at], source, target) for at, (source, target) in enumerate(chosen))


def tied_pairs(places, streams):
    """Which places are tied, by closing the relation: another way of reckoning than the program's."""
    tied = {(place, place) for place in places}
    for number, source, target in streams:
        tied |= {(source, target), (target, source)}
    for middle, one, other in itertools.product(places, repeat=3):
        if (one, middle) in tied and (middle, other) in tied:
            tied.add((one, other))
    return tied


def assert_way(case, streams, start, goal, way):
    """Hold a way against every sentence of point 5."""
    case.assertIs(type(way), tuple)
    ends = {number: (source, target) for number, source, target in streams}
    passed = [start]
    for step in way:
        case.assertIs(type(step), tuple)
        case.assertEqual([type(part) for part in step], [int, int])
        number, direction = step
        case.assertIn(number, ends)
        case.assertIn(direction, (1, -1))
        first, last = ends[number][::direction]
        case.assertEqual(passed[-1], first)
        passed.append(last)
    case.assertEqual(passed[-1], goal)
    case.assertEqual(len(set(passed)), len(passed))


def facts_of(day):
    return (day.tanks, day.streams, day.rises, day.readings)


def asked_of(case, function, day, *arguments):
    """The function's answer about a day, which must be as before behind the call, also where it is refused."""
    before = copy.deepcopy(facts_of(day))
    try:
        return function(day, *arguments)
    finally:
        case.assertEqual(facts_of(day), before)


def assert_refused(case, refusal, function, *arguments):
    """Refused with just this class; the words of the refusal can be had, whatever was handed in."""
    with case.assertRaises(ValueError) as caught:
        function(*arguments)
    case.assertIs(type(caught.exception), refusal)
    case.assertIsInstance(str(caught.exception), str)


def plain_without_meter(parts):
    tanks, streams, rises, readings = parts
    metered = [number for number, reading in readings]
    return [stream for stream in streams if stream[0] not in metered]


def plain_brought(streams, amounts, group):
    """Point 3, stream by stream."""
    brought = 0
    for number, source, target in streams:
        if number in amounts:
            brought += amounts[number] * ((target in group) - (source in group))
    return brought


def plain_clashes(parts):
    """Point 9, from the tied pairs."""
    tanks, streams, rises, readings = parts
    tied = tied_pairs(range(tanks + 1), plain_without_meter(parts))
    clashes = []
    for tank in range(1, tanks + 1):
        bunch = tuple(place for place in range(tanks + 1) if (tank, place) in tied)
        if bunch[0] == tank:
            rise = sum(rises[member - 1] for member in bunch)
            brought = plain_brought(streams, dict(readings), bunch)
            if rise != brought:
                clashes.append((bunch, rise, brought))
    return tuple(clashes)


def plain_groups(parts):
    """Point 11, by trying every group of tanks: for each stream without meter the set of its groups."""
    unmetered = plain_without_meter(parts)
    groups = {number: set() for number, source, target in unmetered}
    for size in range(1, parts[0] + 1):
        for group in itertools.combinations(range(1, parts[0] + 1), size):
            crossing = [number for number, source, target in unmetered if (source in group) != (target in group)]
            if len(crossing) == 1:
                groups[crossing[0]].add(group)
    return groups


def assert_setting(case, parts, setting):
    """Hold a setting against every sentence of point 8."""
    tanks, streams, rises, readings = parts
    assert_told(case, setting)
    case.assertEqual([len(pair) for pair in setting], [2] * len(streams))
    case.assertEqual([number for number, amount in setting], sorted(stream[0] for stream in streams))
    amounts = dict(setting)
    for number, reading in readings:
        case.assertEqual(amounts[number], reading)
    for tank in range(1, tanks + 1):
        case.assertEqual(plain_brought(streams, amounts, (tank,)), rises[tank - 1])


def along(setting, ring, amount):
    """The setting with the amount added along the ring (point 12)."""
    amounts = dict(setting)
    for number, direction in ring:
        amounts[number] += direction * amount
    return tuple(sorted(amounts.items()))


def assert_ring(case, parts, number, ring):
    """Hold a ring that is not empty against every sentence of point 12."""
    case.assertIs(type(ring), tuple)
    case.assertEqual(ring[0], (number, 1))
    assert_told(case, ring)
    unmetered = plain_without_meter(parts)
    source, target = {stream[0]: stream[1:] for stream in unmetered}[number]
    others = [stream for stream in unmetered if stream[0] != number]
    assert_way(case, others, target, source, ring[1:])


def settled_rises(tanks, streams, amounts):
    return tuple(plain_brought(streams, amounts, (tank,)) for tank in range(1, tanks + 1))


def drawn_parts():
    """Parts of days of every shape that point 6 allows: settled ones, ones with a rise that is off, any at all."""
    chance = random.Random(6)
    for tanks in range(8):
        for size in range(13 if tanks > 0 else 1):
            for meters in range(min(size, 10) + 1):
                numbers = chance.sample(range(1, 61), size)
                streams = tuple((number, *chance.sample(range(tanks + 1), 2)) for number in numbers)
                metered = chance.sample(numbers, meters)
                # 12 streams of 80 at most keep each rise within 1000.
                amounts = {number: chance.randint(-80, 80) for number in numbers}
                rises = settled_rises(tanks, streams, amounts)
                readings = tuple((number, amounts[number]) for number in metered)
                yield (tanks, streams, rises, readings)
                if tanks > 0:
                    off = list(rises)
                    off[chance.randrange(tanks)] += chance.choice((-40, -1, 1, 40))
                    yield (tanks, streams, tuple(off), readings)
                edges = (-1000, -999, 0, 999, 1000)
                yield (
                    tanks, streams, tuple(chance.choice(edges) for tank in rises),
                    tuple((number, chance.choice(edges)) for number in metered),
                )


def small_parts():
    """Parts of days of two tanks: every net of at most three streams, every choice of meters, settled and not."""
    for streams in small_nets((0, 1, 2), 3):
        amounts = {stream[0]: 10 ** at for at, stream in enumerate(streams)}
        rises = settled_rises(2, streams, amounts)
        for chosen in itertools.product((False, True), repeat=len(streams)):
            readings = tuple((s[0], amounts[s[0]]) for s, metered in zip(streams, chosen) if metered)
            for off in ((0, 0), (1, 0), (0, -1), (1, -1)):
                yield (2, streams, (rises[0] + off[0], rises[1] + off[1]), readings)


def many_days():
    """Each as its parts and the day made of them."""
    for parts in itertools.chain(drawn_parts(), small_parts()):
        yield parts, Day(*parts)
