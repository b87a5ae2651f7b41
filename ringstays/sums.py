"""Sums of source programs, their worths and names: point [171]."""

from ringstays.errors import InvalidCells, InvalidNames, InvalidSum
from ringstays.values import is_list, is_within

MOST_WORTH = 65535
MOST_IN_NAME = 40
MOST_SUM_DEPTH = 8
CELLS = 8
LETTERS = "abcdefghijklmnopqrstuvwxyz"
DIGITS = "0123456789"
KINDS = ("add", "sub", "mul", "less", "rest")


def is_worth(value):
    return is_within(value, 0, MOST_WORTH)


def are_worths(value, count):
    """Whether any value is a list of so many worths."""
    return is_list(value) and len(value) == count and all([is_worth(told) for told in value])


def is_cell(value):
    return is_within(value, 0, CELLS - 1)


def is_name(value):
    if not isinstance(value, str) or not 1 <= len(value) <= MOST_IN_NAME:
        return False
    return value[0] in LETTERS and all([sign in LETTERS or sign in DIGITS for sign in value])


def is_sum(value):
    """Whether any value is a sum."""
    return _is_sum(value, MOST_SUM_DEPTH)


def _is_sum(value, most):
    """Whether any value is a sum that is at most so deep."""
    if not isinstance(value, tuple):
        return is_worth(value) or is_name(value)
    if len(value) == 2:
        return value[0] == "cell" and is_cell(value[1])
    if len(value) != 3 or value[0] not in KINDS or most == 0:
        return False
    return _is_sum(value[1], most - 1) and _is_sum(value[2], most - 1)


def worth(given, names, cells):
    """The worth of a sum."""
    if not is_sum(given):
        raise InvalidSum(given)
    if not _are_worths_of_names(names):
        raise InvalidNames(names)
    if not are_worths(cells, CELLS):
        raise InvalidCells(cells)
    return worth_of(given, names, cells)


def _are_worths_of_names(value):
    if not isinstance(value, dict):
        return False
    return all([is_name(name) and is_worth(told) for name, told in value.items()])


def worth_of(given, names, cells):
    """The worth of a sum; nothing is asked of the arguments."""
    if isinstance(given, str):
        return names.get(given, 0)
    if not isinstance(given, tuple):
        return given
    if given[0] == "cell":
        return cells[given[1]]
    kind, one, other = given
    return _put_together(kind, worth_of(one, names, cells), worth_of(other, names, cells))


def _put_together(kind, one, other):
    """The worth of a sum of a kind, by the worths of its two sums."""
    if kind == "less":
        return 1 if one < other else 0
    if kind == "rest":
        return one % other if other > 0 else 0
    if kind == "mul":
        return one * other % (MOST_WORTH + 1)
    return (one + other if kind == "add" else one - other) % (MOST_WORTH + 1)
