"""Versions and equal pass lists: points [61] and [65]."""

from ringstays.errors import InvalidPasses, Unrolling
from ringstays.passes import check_passes, is_pass_list
from ringstays.values import MOST_FUNCTIONS


def check_both(one, other):
    if not is_pass_list(one):
        raise InvalidPasses(one)
    if not is_pass_list(other):
        raise InvalidPasses(other)


def _check_unrolling(passes):
    for at, (_, function, callee) in enumerate(passes):
        if function == callee:
            raise Unrolling(at)


def check_one_list(passes):
    """Raise what is due unless this is a pass list without unrolling."""
    check_passes(passes)
    _check_unrolling(passes)


def check_two_lists(one, other):
    """Raise what is due unless both are pass lists without unrolling."""
    check_both(one, other)
    _check_unrolling(one)
    _check_unrolling(other)


def rows_of(passes):
    """The row of entries (callee, version) of each function, for passes of any kind."""
    rows = [[] for _ in range(MOST_FUNCTIONS)]
    for mode, function, callee in passes:
        # A row has an entry for each change so far, so its length is the version.
        rows[function].append((callee, len(rows[callee]) if mode == "now" else 0))
    return rows


def versions(passes):
    """The row of entries (callee, version) of each function from 0 to 7."""
    check_one_list(passes)
    return rows_of(passes)


def equal_lists(one, other):
    """Whether two pass lists make the same bodies of every program."""
    check_two_lists(one, other)
    return rows_of(one) == rows_of(other)
