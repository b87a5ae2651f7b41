"""Wheels, the bodies of one cycle of functions with one call each: point [162].

A function is *on the cycle* if it is one of the places of a cycle of jumps. In a wheel that
steps make there is one such cycle, and its lengths are together as many as there are functions.
"""

from ringstays.errors import InvalidCount, InvalidWheel, InvalidWheelLog, StoppedWheel, UnreachableWheel
from ringstays.jumps import cycles_of_jumps
from ringstays.values import is_list, is_within

MOST_IN_WHEEL = 12
MOST_LENGTH = 10 ** 30
MOST_ITEMS = 100


def check_wheel(wheel):
    if not _is_wheel(wheel):
        raise InvalidWheel(wheel)


def _is_wheel(value):
    if not is_list(value) or not 1 <= len(value) <= MOST_IN_WHEEL:
        return False
    return all([is_within(length, 1, MOST_LENGTH) for length in value])


def check_wheel_count(count):
    if not is_within(count, 1, MOST_IN_WHEEL):
        raise InvalidCount(count)


def jump_from(lengths, function):
    """The function to which a function jumps."""
    return (function + lengths[function]) % len(lengths)


def wheel_cycles(wheel):
    """The cycles of jumps (places, rounds) of the wheel."""
    check_wheel(wheel)
    return cycles_of_jumps(wheel)


def determinant(wheel):
    """The determinant of the table of the wheel."""
    cycles = wheel_cycles(wheel)
    return cycles[0][1] if len(cycles) == 1 else 0


def wheel_reachable(wheel):
    """Whether steps make the wheel of the one of lengths 1."""
    return determinant(wheel) == 1


def wheel_log(wheel):
    """Tuples (function, times) of steps that make the wheel of the one of lengths 1."""
    cycles = wheel_cycles(wheel)
    if not wheel_reachable(wheel):
        raise UnreachableWheel(cycles)
    lengths, cycle, undone = list(wheel), list(cycles[0][0]), []
    while len(cycle) < len(lengths):
        function = _function_beside(lengths, cycle)
        undone.extend(_put_on_cycle(lengths, cycle, function))
        cycle.append(function)
    return undone[::-1]


def _function_beside(lengths, cycle):
    """The least function that is not on the cycle and jumps to one that is."""
    beside = [function for function in range(len(lengths)) if function not in cycle]
    return min([function for function in beside if jump_from(lengths, function) in cycle])


def _put_on_cycle(lengths, cycle, function):
    """Take back steps until the function is on the cycle, and return them, the last one done first.

    A step is taken back by making a length less by a smaller one, of a function that jumps to
    the same one: the one behind it jumps to the other one then.
    """
    undone = []
    # Round the whole cycle each of its functions takes back one step, and all of them one round.
    rounds = (lengths[function] - 1) // len(lengths)
    lengths[function] -= rounds * len(lengths)
    times = rounds * len(cycle)
    other = _function_ahead(lengths, cycle, function)
    while lengths[function] > lengths[other]:
        lengths[function] -= lengths[other]
        times += 1
        other = _function_ahead(lengths, cycle, function)
    if times > 0:
        undone.append((function, times))
    lengths[other] -= lengths[function]
    undone.append((other, 1))
    return undone


def _function_ahead(lengths, cycle, function):
    """The function on the cycle that jumps to where the function jumps to."""
    reached = jump_from(lengths, function)
    return min([other for other in cycle if jump_from(lengths, other) == reached])


def after_wheel(count, log):
    """The wheel that such tuples make of the one of so many lengths 1."""
    check_wheel_count(count)
    if not _is_wheel_log(count, log):
        raise InvalidWheelLog(log)
    lengths = [1] * count
    for at, (function, times) in enumerate(log):
        length = _length_behind(lengths, function, times)
        if length is None or length > MOST_LENGTH:
            raise StoppedWheel(at)
        lengths[function] = length
    return lengths


def _is_wheel_log(count, value):
    if not is_list(value) or len(value) > MOST_ITEMS:
        return False
    for item in value:
        if not isinstance(item, tuple) or len(item) != 2:
            return False
        if not is_within(item[0], 0, count - 1) or not is_within(item[1], 1, MOST_LENGTH):
            return False
    return True


def _length_behind(lengths, function, times):
    """The length of the function behind so many of its steps, None if one of them cannot be done."""
    length, reached = lengths[function], jump_from(lengths, function)
    done = 0
    while done < times:
        if reached == function:
            return None
        length += lengths[reached]
        reached = jump_from(lengths, reached)
        done += 1
        # Behind so many jumps they go round a cycle that does not come to the function.
        if done == len(lengths):
            rounds, total = _round_from(lengths, reached)
            length += (times - done) // rounds * total
            done += (times - done) // rounds * rounds
    return length


def _round_from(lengths, start):
    """The number of the jumps from a function on a cycle of jumps back to it, and the sum of their lengths."""
    count, total, function = 1, lengths[start], jump_from(lengths, start)
    while function != start:
        count += 1
        total += lengths[function]
        function = jump_from(lengths, function)
    return count, total
