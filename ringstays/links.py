"""Links and chains of pass lists: point [62]."""

from ringstays.errors import TooMany, UnequalLists
from ringstays.passes import is_pass_list, touch
from ringstays.separation import separation
from ringstays.values import is_list
from ringstays.versions import check_two_lists

MOST_CHAINED = 24


def is_link(one, other):
    """Whether one pass list goes to the other one by one link."""
    check_two_lists(one, other)
    return goes_by_link(one, other)


def goes_by_link(one, other):
    """Whether one pass list, which may unroll, goes to the other one by one link."""
    if len(one) != len(other):
        return False
    places = [at for at in range(len(one)) if one[at] != other[at]]
    if len(places) == 1:
        return _is_change_of_mode(one, other, places[0])
    if len(places) == 2:
        return _is_swap(one, other, places[0], places[1])
    return False


def _is_change_of_mode(one, other, at):
    """Whether two lists that differ at this index alone differ by a link."""
    return one[at][1:] == other[at][1:] and not _is_changed(one[:at], one[at][2])


def _is_changed(passes, function):
    return any([changed == function for _, changed, _ in passes])


def _is_swap(one, other, at, behind):
    """Whether two lists that differ at these two indices alone differ by a link."""
    if behind != at + 1 or one[at] != other[behind] or one[behind] != other[at]:
        return False
    return not touch(one[at], one[behind])


def is_chain(one, other, value):
    """Whether any value is a chain from one pass list to the other one."""
    check_two_lists(one, other)
    return leads_by(goes_by_link, one, other, value)


def leads_by(goes, one, other, value):
    """Whether any value is a list of pass lists from the one to the other, of which each goes to the next."""
    if not is_list(value) or not value or not all([is_pass_list(passes) for passes in value]):
        return False
    # A tuple counts as equal to a list, but not to Python.
    if list(value[0]) != list(one) or list(value[-1]) != list(other):
        return False
    return all([goes(ahead, behind) for ahead, behind in zip(value, value[1:])])


def chain(one, other):
    """A chain from one pass list to the other one."""
    check_two_lists(one, other)
    count = max(len(one), len(other))
    if count > MOST_CHAINED:
        raise TooMany(count)
    parted = separation(one, other)
    if parted is not None:
        raise UnequalLists(parted[0], parted[1])
    return joined(_settling(one), _settling(other))


def _settling(passes):
    """A chain from the list to one in which just the passes that read a changed body have the mode "now"."""
    lists = [list(passes)]
    for at in range(len(passes)):
        if _is_unsettled(lists[-1], at):
            lists.append(with_mode_first(lists[-1], at))
    return lists


def _is_unsettled(passes, at):
    """Whether the pass with this index reads a body that no pass ahead of it changes."""
    mode, _, callee = passes[at]
    return mode == "now" and not _is_changed(passes[:at], callee)


def with_mode_first(passes, at):
    _, function, callee = passes[at]
    return passes[:at] + [("first", function, callee)] + passes[at + 1:]


def joined(ahead, behind):
    """A chain along one chain, by swaps from its last list to that of the other one, and back along this.

    The last lists have equal rows, and a pass has the mode "now" exactly if its version is
    not 0. So passes that touch have the same order in both.
    """
    ahead, behind = _without_common_end(ahead, behind)
    return ahead + _swaps(ahead[-1], behind[-1]) + behind[-2::-1]


def _without_common_end(ahead, behind):
    """Both chains, but for the links that both have at their ends."""
    common = 0
    shorter = min(len(ahead), len(behind))
    while common + 1 < shorter and ahead[-2 - common] == behind[-2 - common]:
        common += 1
    return ahead[:len(ahead) - common], behind[:len(behind) - common]


def _swaps(passes, target):
    """The lists behind each of the swaps of neighbours that lead from one list to another with its passes."""
    lists = []
    row = list(passes)
    for at, one in enumerate(target):
        place = at
        while row[place] != one:
            place += 1
        while place > at:
            row[place - 1], row[place] = row[place], row[place - 1]
            lists.append(list(row))
            place -= 1
    return lists
