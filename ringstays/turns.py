"""Programs of two functions, whose bodies have turns: point [161]."""

from math import factorial

from ringstays.bodies import bodies_of, original_rows
from ringstays.errors import InvalidTurns, NotOpen, NotTwo, OtherProgram, SelfCall
from ringstays.programs import led_to
from ringstays.reaching import reach
from ringstays.steps import rows_inlined
from ringstays.values import is_list, is_within

MOST_TURNS = 60


def _check_two(program):
    if len(program) != 2:
        raise NotTwo(len(program))


def turns(bodies):
    """The turns (function, paths) of the logs that make the bodies, the first one first."""
    _check_two(bodies.program)
    return _turns_of(bodies)


def _turns_of(bodies):
    # All logs of mode "now" that make the bodies have the same turns, so any one tells them.
    found = []
    for function, path, _ in reach(bodies):
        if not found or found[-1][0] != function:
            found.append((function, []))
        found[-1][1].append(path)
    return [(function, sorted(paths)) for function, paths in found]


def from_turns(program, turns):
    """The Bodies that a list of turns makes."""
    _check_two(program)
    if not is_list(turns) or len(turns) > MOST_TURNS:
        raise InvalidTurns(turns)
    inlined, last = original_rows(program), None
    for turn in turns:
        if not _is_turn(program, turn, last):
            raise InvalidTurns(turns)
        last, paths = turn
        for path in paths:
            try:
                inlined = rows_inlined(program, inlined, last, path, False)
            except (NotOpen, SelfCall):
                raise InvalidTurns(turns) from None
    return bodies_of(program, inlined)


def _is_turn(program, value, last):
    """Whether any value has the form of a turn behind one of the last function."""
    if not isinstance(value, tuple) or len(value) != 2:
        return False
    function, paths = value
    if not is_within(function, 0, 1) or function == last or not is_list(paths) or not paths:
        return False
    if not all([led_to(program, function, path) is not None for path in paths]):
        return False
    return all([path < behind for path, behind in zip(paths, paths[1:])])


def count_logs(bodies):
    """The number of logs of mode "now" that make the bodies of the original ones."""
    count = 1
    for _, paths in turns(bodies):
        count *= _count_orders(paths)
    return count


def _count_orders(paths):
    """The number of orders of ascending paths in which none comes ahead of one of its beginnings."""
    # Of all orders, those are right in which each path is the first one among those behind it and itself.
    sizes = [1] * len(paths)
    trail = []
    for at, path in enumerate(paths):
        while trail and paths[trail[-1]] != path[:len(paths[trail[-1]])]:
            trail.pop()
        for above in trail:
            sizes[above] += 1
        trail.append(at)
    wrong = 1
    for size in sizes:
        wrong *= size
    return factorial(len(paths)) // wrong


def apart(one, other):
    """The least number of steps and foldings that lead from one of two bodies to the other."""
    if one.program != other.program:
        raise OtherProgram(other)
    first, second = turns(one), turns(other)
    count = sum([len(paths) for _, paths in first + second])
    return count - 2 * _count_shared(first, second)


def _count_shared(first, second):
    """The number of steps that two lists of turns share."""
    count = 0
    for (function, paths), (other_function, other_paths) in zip(first, second):
        if function != other_function:
            break
        count += len(_common(paths, other_paths))
        if paths != other_paths:
            break
    return count


def _common(paths, others):
    known = {path: True for path in others}
    return [path for path in paths if path in known]
