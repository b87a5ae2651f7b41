"""Pass lists that do the same to every acyclic program: point [92]."""

from itertools import permutations

from ringstays.errors import InvalidCount, SmallCount
from ringstays.programs import is_order
from ringstays.values import is_within
from ringstays.versions import check_both
from ringstays.walks import inlines

MOST_ORDERED = 6


def _check(one, other, count):
    check_both(one, other)
    if not is_within(count, 1, MOST_ORDERED):
        raise InvalidCount(count)
    for passes in (one, other):
        if any([function >= count or callee >= count for _, function, callee in passes]):
            raise SmallCount(count)


def equal_acyclic(one, other, count):
    """None if two lists do the same to every acyclic program of so many functions, else where they differ."""
    _check(one, other, count)
    for size in range(2, count + 1):
        for row in permutations(range(count), size):
            if _parts(one, other, row[0], row[1:]):
                order = list(row) + [function for function in range(count) if function not in row]
                return order, row[0], row[1:]
    return None


def _parts(one, other, function, names):
    """Whether just one of the two lists inlines a path with these names."""
    return inlines(one, function, names) != inlines(other, function, names)


def is_acyclic_separation(one, other, count, value):
    """Whether any value is an order, a function and names at which the two lists differ."""
    _check(one, other, count)
    if not isinstance(value, tuple) or len(value) != 3:
        return False
    order, function, names = value
    if not is_order(order) or len(order) != count or not is_within(function, 0, count - 1):
        return False
    return _is_row_along(order, function, names) and _parts(one, other, function, names)


def _is_row_along(order, function, value):
    """Whether any value is a tuple of functions, not empty, each of which stands behind the one ahead of it."""
    if not isinstance(value, tuple) or not value:
        return False
    if not all([is_within(name, 0, len(order) - 1) for name in value]):
        return False
    places = [order.index(name) for name in (function,) + value]
    return all([ahead < behind for ahead, behind in zip(places, places[1:])])
