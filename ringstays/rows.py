"""Rows of source programs, on which points [172] to [184] rest."""

from ringstays.sums import is_cell, is_name, is_sum
from ringstays.values import is_group, is_list, is_within

MOST_ROWS = 400
MOST_DEPTH = 40
MOST_NAMES = 4
MOST_CHOSEN = 3


def are_names(value):
    """Whether any value is a tuple of names that a function may have."""
    if not isinstance(value, tuple) or len(value) > MOST_NAMES or not all([is_name(name) for name in value]):
        return False
    return len(set(value)) == len(value)


def is_row(value, count):
    """Whether any value is a row among so many functions; of rows within it, only that they are lists."""
    if not isinstance(value, tuple) or not value:
        return False
    kind, parts = value[0], value[1:]
    if kind == "call":
        return _is_call(parts, count)
    if kind == "choose":
        return _is_choose(parts, count)
    if kind in ("set", "store"):
        return len(parts) == 2 and _is_goal(kind, parts[0]) and is_sum(parts[1])
    if kind in ("ask", "times"):
        return len(parts) == (3 if kind == "ask" else 2) and is_sum(parts[0]) and _are_lists(parts[1:])
    return kind in ("show", "give") and len(parts) == 1 and is_sum(parts[0])


def _is_goal(kind, value):
    return is_name(value) if kind == "set" else is_cell(value)


def _are_lists(values):
    return all([is_list(value) for value in values])


def _is_call(parts, count):
    if len(parts) != 3:
        return False
    name, function, sums = parts
    return _is_told_name(name) and is_within(function, 0, count - 1) and _are_sums(sums)


def _is_choose(parts, count):
    if len(parts) != 4:
        return False
    name, cell, functions, sums = parts
    if not _is_told_name(name) or not is_cell(cell) or not is_group(functions, count):
        return False
    return 1 <= len(functions) <= MOST_CHOSEN and _are_sums(sums)


def _is_told_name(value):
    return value is None or is_name(value)


def _are_sums(value):
    return is_list(value) and all([is_sum(given) for given in value])


def rows_within(row):
    """The lists of rows within a row."""
    if row[0] == "ask":
        return [row[2], row[3]]
    return [row[2]] if row[0] == "times" else []


def all_rows(rows):
    """The rows and all rows within them, in the order of the text."""
    found, rest = [], list(rows[::-1])
    while rest:
        row = rest.pop()
        found.append(row)
        for inner in rows_within(row)[::-1]:
            rest.extend(inner[::-1])
    return found


def callees_of(row):
    """The functions that a row calls, in the order of its calls."""
    if row[0] == "call":
        return [row[2]]
    return list(row[3]) if row[0] == "choose" else []


def sums_of(row):
    """The sums of a row."""
    if row[0] in ("call", "choose"):
        return list(row[-1])
    return [row[2]] if row[0] in ("set", "store") else [row[1]]


def names_in(row):
    """The names that stand in a row, its own one ahead of those in its sums."""
    found = [row[1]] if row[0] in ("set", "call", "choose") and row[1] is not None else []
    for given in sums_of(row):
        found.extend(_names_of(given))
    return found


def _names_of(given):
    if isinstance(given, str):
        return [given]
    if not isinstance(given, tuple) or given[0] == "cell":
        return []
    return _names_of(given[1]) + _names_of(given[2])


def has_give(row):
    """Whether the row is a give or has one among the rows within it."""
    return any([one[0] == "give" for one in all_rows([row])])
