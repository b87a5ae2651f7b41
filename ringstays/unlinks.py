"""Links and chains of pass lists that may unroll: point [74]."""

from ringstays.errors import TooMany, UnequalRows
from ringstays.links import goes_by_link, joined, leads_by, with_mode_first
from ringstays.unrolling import first_difference
from ringstays.versions import check_both

MOST_UNROLL_CHAINED = 12


def is_unroll_link(one, other):
    """Whether one pass list goes to the other one by one unroll link."""
    check_both(one, other)
    return _goes(one, other)


def _goes(one, other):
    return goes_by_link(one, other) or _is_longer_by_link(one, other) or _is_longer_by_link(other, one)


def _is_longer_by_link(short, long):
    """Whether the longer list has three passes in the place of two of the other one that do the same."""
    if len(long) != len(short) + 1:
        return False
    at = 0
    while at < len(short) and short[at] == long[at]:
        at += 1
    return _is_unrolled_ahead(short, at) and _with_read_ahead(short, at) == list(long)


def _is_unrolled_ahead(passes, at):
    """Whether the pass with this index unrolls what the next one reads."""
    if at + 1 >= len(passes):
        return False
    mode, _, callee = passes[at + 1]
    return mode == "now" and passes[at] == ("first", callee, callee)


def _with_read_ahead(passes, at):
    """The list in which the next pass reads its callee ahead of the unrolling with this index."""
    _, function, callee = passes[at + 1]
    three = [("now", function, callee), ("first", function, callee), ("first", callee, callee)]
    return list(passes[:at]) + three + list(passes[at + 2:])


def is_unroll_chain(one, other, value):
    """Whether any value is an unroll chain from one pass list to the other one."""
    check_both(one, other)
    return leads_by(_goes, one, other, value)


def unroll_chain(one, other):
    """An unroll chain from one pass list to the other one."""
    check_both(one, other)
    count = max(len(one), len(other))
    if count > MOST_UNROLL_CHAINED:
        raise TooMany(count)
    difference = first_difference(one, other)
    if difference is not None:
        raise UnequalRows(difference[0], difference[1])
    return joined(_settling(one), _settling(other))


def _settling(passes):
    """An unroll chain from the list to a normal one [73]."""
    lists = [list(passes)]
    at = 0
    while at < len(lists[-1]):
        # Where the pass reads unrollings, it comes to stand ahead of this index, and up to it and
        # behind it come unrollings and other passes of the mode "first"; these are passed over.
        lists.extend(_settling_of_pass(lists[-1], at))
        at += 1
    return lists


def _settling_of_pass(passes, at):
    """The lists behind the links that settle the pass with this index, if all ahead of it are settled."""
    lists = []
    mode, _, callee = passes[at]
    if mode == "first":
        return lists
    place = _last_change(passes, at, callee)
    while place is not None and passes[place][2] == callee:
        # No pass between the two touches the unrolling: one that reads it would not be settled.
        for here in range(place, at - 1):
            passes = passes[:here] + [passes[here + 1], passes[here]] + passes[here + 2:]
            lists.append(passes)
        at -= 1
        passes = _with_read_ahead(passes, at)
        lists.append(passes)
        place = _last_change(passes, at, callee)
    if place is None:
        lists.append(with_mode_first(passes, at))
    return lists


def _last_change(passes, at, function):
    """The index of the last pass ahead of this index that changes the function, None if there is none."""
    places = [place for place in range(at) if passes[place][1] == function]
    return places[-1] if places else None
