"""How many wheels steps make: point [163]."""

from math import comb

from ringstays.errors import InvalidGroup, InvalidInlinedCount, InvalidLimits, InvalidStaying
from ringstays.values import is_group, is_list, is_within
from ringstays.wheels import MOST_IN_WHEEL, check_wheel_count

MOST_COUNTED = 400
MOST_LIMIT = 10 ** 18


def _check(count, inlined):
    check_wheel_count(count)
    if not is_within(inlined, 0, MOST_COUNTED):
        raise InvalidInlinedCount(inlined)


def count_wheels(count, inlined):
    """The number of the reachable wheels of so many lengths with so many inlined paths."""
    _check(count, inlined)
    return sum([_count_staying(count, inlined, staying) for staying in range(1, count + 1)])


def count_staying(count, inlined, staying):
    """The number of those of them that have so many functions on the cycle of jumps."""
    _check(count, inlined)
    if not is_within(staying, 1, count):
        raise InvalidStaying(staying)
    return _count_staying(count, inlined, staying)


def _count_staying(count, inlined, staying):
    away = count - staying
    # The numbers before the powers of q, from the power 0 on.
    series = [0] * (inlined + 1)
    if away <= inlined:
        series[away] = comb(count, staying)
    for _ in range(away):
        series = _divided(series, 1)
    return _multiplied(_divided(series, count), staying)[inlined]


def _divided(series, power):
    """The series divided by 1 less this power of q."""
    found = list(series)
    for at in range(power, len(found)):
        found[at] += found[at - power]
    return found


def _multiplied(series, power):
    """The series multiplied by 1 less this power of q."""
    return [number - (series[at - power] if at >= power else 0) for at, number in enumerate(series)]


def count_within(limits, bare):
    """The number of the reachable wheels of lengths within these limits, with no steps of the bare functions."""
    if not _are_limits(limits):
        raise InvalidLimits(limits)
    if not is_group(bare, len(limits)) or len(bare) == len(limits):
        raise InvalidGroup(bare)
    count = len(limits)
    others = [function for function in range(count) if function not in bare]
    total = 0
    for function in others:
        part = _span(function, count, bare) * _span(function, count, bare)
        for other in others:
            if other != function:
                part *= limits[other] * count + _span(other, count, bare)
        total += part
    return total // count


def _are_limits(value):
    if not is_list(value) or not 1 <= len(value) <= MOST_IN_WHEEL:
        return False
    return all([is_within(limit, 1, MOST_LIMIT) for limit in value])


def _span(function, count, bare):
    """1 more than there are bare functions in an unbroken row right ahead of a function that is not bare."""
    span = 1
    while (function - span) % count in bare:
        span += 1
    return span
