"""What several test files need: rows in both forms, and answers held against their kinds."""

import copy
import itertools


def in_all_forms(*rows):
    """The rows handed in, each as a list and as a tuple, in every mixture."""
    return itertools.product(*[(list(row), tuple(row)) for row in rows])


def answer_unchanged(case, function, *arguments):
    """The function's answer; the arguments must be as before behind the call."""
    before = copy.deepcopy(arguments)
    answer = function(*arguments)
    case.assertEqual(arguments, before)
    for now, then in zip(arguments, before):
        case.assertIs(type(now), type(then))
    return answer


def assert_told(case, told):
    """Only tuples, whole numbers and texts may be told, at every depth."""
    case.assertIn(type(told), (tuple, int, str))
    if type(told) is tuple:
        for thing in told:
            assert_told(case, thing)


def small_nets(places, most):
    """Every row of at most so many streams between the places; numbers neither rising nor from 1."""
    numbers = (9, 4, 30, 1)
    joins = list(itertools.permutations(places, 2))
    for size in range(most + 1):
        for chosen in itertools.product(joins, repeat=size):
            yield tuple((numbers[at], source, target) for at, (source, target) in enumerate(chosen))
