"""Towers of pass lists, and rows of visits that do the same to every program: points [93] and [94]."""

from itertools import combinations

from ringstays.errors import InvalidCount, InvalidVisits
from ringstays.separation import separation
from ringstays.values import MOST_FUNCTIONS, is_within
from ringstays.visits import is_row_of_visits

LEAST_TOWER = 2
MOST_TOWER = 6


def tower(count):
    """Two pass lists that are not equal on acyclic programs, while their cuts to fewer functions are."""
    if not is_within(count, LEAST_TOWER, MOST_TOWER):
        raise InvalidCount(count)
    storeys = []
    for function in range(2, count):
        storeys.extend(_storey(function))
    return [("now", 1, 0)] + storeys, list(storeys)


def _storey(function):
    below = function - 1
    return [("now", function, below)] + [("now", below, callee) for callee in range(below)] * below


def equal_visits(one, other):
    """Whether two rows of visits make the same bodies of every program."""
    _check(one, other)
    return list(one) == list(other)


def visits_separation(one, other):
    """A group, a function and a path at which two rows of visits differ, None if they are the same row."""
    _check(one, other)
    # Rows that are not the same differ in the visits of some two functions, or in how many there are.
    for first, second in combinations(range(MOST_FUNCTIONS), 2):
        lists = [_passes_between(order, first, second) for order in (one, other)]
        if lists[0] != lists[1]:
            function, path = separation(lists[0], lists[1])
            return [first, second], function, path
    return None


def _check(one, other):
    if not is_row_of_visits(one):
        raise InvalidVisits(one)
    if not is_row_of_visits(other):
        raise InvalidVisits(other)


def _passes_between(order, first, second):
    """The visits of two functions as passes, each with the other one as its callee."""
    return [("now", function, first + second - function) for function in order if function in (first, second)]
