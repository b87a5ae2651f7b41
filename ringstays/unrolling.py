"""Plain rows of pass lists that may unroll: points [71], [72] and [75]."""

from ringstays.passes import check_passes
from ringstays.values import MOST_FUNCTIONS
from ringstays.versions import check_both, rows_of


def spread(passes):
    """A normal list [73], perhaps of more than 60 passes, whose rows are the plain rows of the list.

    Unrollings of a function wait until a pass changes it otherwise, or to the end. Who reads
    it meanwhile reads it as it was ahead of them, and then inlines what they would have put in.
    """
    waiting = [0] * MOST_FUNCTIONS
    changed = [False] * MOST_FUNCTIONS
    found = []
    for mode, function, callee in passes:
        if function == callee:
            waiting[function] += 1
            continue
        found.extend(_unrollings(function, waiting[function]))
        waiting[function] = 0
        changed[function] = True
        found.append((mode if changed[callee] else "first", function, callee))
        if mode == "now":
            found.extend([("first", function, callee)] * waiting[callee])
    for function, count in enumerate(waiting):
        found.extend(_unrollings(function, count))
    return found


def _unrollings(function, count):
    return [("first", function, function)] * count


def plain_rows(passes):
    """The plain rows of a pass list; nothing is asked of the argument."""
    return rows_of(spread(passes))


def unrolled_rows(passes):
    """The plain rows of the functions from 0 to 7."""
    check_passes(passes)
    return plain_rows(passes)


def equal_unrolled(one, other):
    """Whether two pass lists make the same bodies of every program."""
    check_both(one, other)
    return plain_rows(one) == plain_rows(other)


def first_difference(one, other):
    """The first function and index at which the plain rows of two lists do not agree, None if they do."""
    check_both(one, other)
    for function, (row, other_row) in enumerate(zip(plain_rows(one), plain_rows(other))):
        if row != other_row:
            return function, _difference(row, other_row)
    return None


def _difference(row, other_row):
    """The first index at which two rows do not agree, which are not the same."""
    for at, (entry, other_entry) in enumerate(zip(row, other_row)):
        if entry != other_entry:
            return at
    return min(len(row), len(other_row))
