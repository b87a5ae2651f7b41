"""Places of wheels that hang together by jumps and ties: point [164]."""

from itertools import combinations
from math import gcd

from ringstays.errors import InvalidGroup
from ringstays.values import is_group
from ringstays.wheels import check_wheel


def _check(wheel, group):
    check_wheel(wheel)
    if not is_group(group, len(wheel)):
        raise InvalidGroup(group)


def _links(wheel, group):
    """For each function tuples (other, rounds): its place k rounds on is tied to the other's k + rounds rounds on."""
    count = len(wheel)
    found = [[] for _ in wheel]
    for function, length in enumerate(wheel):
        for more in (length, 1) if function in group else (length,):
            other, rounds = (function + more) % count, (function + more) // count
            found[function].append((other, rounds))
            found[other].append((function, -rounds))
    return found


def _tied(wheel, group):
    """The functions of which places hang together with places of 0, and by how many rounds these differ at least.

    Links that lead round to the same function tell rounds by which its places may differ.
    """
    links = _links(wheel, group)
    ahead, period = {0: 0}, 0
    rest = [0]
    while rest:
        function = rest.pop()
        for other, rounds in links[function]:
            told = ahead[function] + rounds
            if other in ahead:
                period = gcd(period, told - ahead[other])
            else:
                ahead[other] = told
                rest.append(other)
    return ahead, period


def _are_all_tied(wheel, group):
    functions, period = _tied(wheel, group)
    return len(functions) == len(wheel) and period == 1


def wheel_kept(wheel, group):
    """Whether all places of the wheel hang together if the group is kept."""
    _check(wheel, group)
    return _are_all_tied(wheel, group)


def halves(wheel, group):
    """Two places that do not hang together, None if all do."""
    _check(wheel, group)
    functions, period = _tied(wheel, group)
    for function in range(len(wheel)):
        if function not in functions:
            return 0, function
    # Places of 0 hang together just where they differ by a multiple of so many rounds.
    return None if period == 1 else (0, len(wheel))


def smallest_groups(wheel):
    """The ascending list of the groups of the least size with which all places hang together."""
    check_wheel(wheel)
    found, size = [], 0
    # With all functions kept each place is tied to the next one.
    while not found:
        found = _groups_of(wheel, size)
        size += 1
    return found


def _groups_of(wheel, size):
    return [list(group) for group in combinations(range(len(wheel)), size) if _are_all_tied(wheel, group)]
