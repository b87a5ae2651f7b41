"""Walks along paths of complete programs: points [51] to [56].

In the package, the owners of a place are a list with its owner at each moment, None for nobody.
"""

from ringstays.errors import InvalidFunction, InvalidIndex, InvalidMost, InvalidPath, NotInlinedAt, TooMany
from ringstays.passes import check_passes
from ringstays.values import MOST_CALLS, MOST_FUNCTIONS, is_any_function, is_within

MOST_PATHS = 400


def is_row_of_functions(value):
    """Whether any value is a path of a complete program."""
    if not isinstance(value, tuple) or len(value) > MOST_CALLS:
        return False
    return all([is_any_function(function) for function in value])


def _check_function(passes, function):
    check_passes(passes)
    if not is_any_function(function):
        raise InvalidFunction(function)


def _check_path(passes, function, path):
    _check_function(passes, function)
    if not is_row_of_functions(path):
        raise InvalidPath(path)


def _check_index(passes, index):
    if not is_within(index, 0, len(passes)):
        raise InvalidIndex(index)


def _first_owners(passes, function):
    """The owners of the place at which walks from the function begin."""
    return [function] * (len(passes) + 1)


def _inlined_at(passes, owners, callee):
    """The index at which the call of the callee is inlined at a place with these owners, None if it is open."""
    for at, (_, changed, reached) in enumerate(passes):
        if reached == callee and changed == owners[at]:
            return at
    return None


def _owners_behind(passes, owners, at):
    """The owners of the place behind a call that is inlined at this index."""
    mode, _, callee = passes[at]
    ahead = callee if mode == "now" else None
    return [ahead] * (at + 1) + owners[at + 1:]


def _walk(passes, function, path):
    """The indices at which the calls of the path are inlined, and the owners of the place behind them."""
    taken = []
    owners = _first_owners(passes, function)
    for callee in path:
        at = _inlined_at(passes, owners, callee)
        if at is None:
            break
        taken.append(at)
        owners = _owners_behind(passes, owners, at)
    return tuple(taken), owners


def inlines(passes, function, path):
    """Whether the walk inlines all calls of the path; nothing is asked of the arguments."""
    taken, _ = _walk(passes, function, path)
    return len(taken) == len(path)


def moments(passes, function, path):
    """The indices of the passes at which the calls of the path are inlined."""
    _check_path(passes, function, path)
    taken, _ = _walk(passes, function, path)
    return taken


def is_inlined_at(passes, function, path):
    """Whether all calls of the path are inlined."""
    _check_path(passes, function, path)
    return inlines(passes, function, path)


def is_open_at(passes, function, path):
    """Whether the last call of the path alone is open."""
    _check_path(passes, function, path)
    taken, _ = _walk(passes, function, path)
    return len(taken) == len(path) - 1


def owner(passes, function, path, index):
    """The owner of the place behind the path at this moment, None for nobody."""
    _check_path(passes, function, path)
    taken, owners = _walk(passes, function, path)
    if len(taken) < len(path):
        raise NotInlinedAt(path)
    _check_index(passes, index)
    return owners[index]


def standing(passes, function, index):
    """The passes (mode, callee, at) that change the function and stand ahead of the index."""
    _check_function(passes, function)
    _check_index(passes, index)
    found = []
    for at, (mode, changed, callee) in enumerate(passes[:index]):
        if changed == function:
            found.append((mode, callee, at))
    return tuple(found)


def body_on(passes, function, most):
    """The ascending tuple of the inlined paths of the function on the complete program of 8 functions."""
    _check_function(passes, function)
    if not is_within(most, 1, MOST_PATHS):
        raise InvalidMost(most)
    found = []
    places = [((), _first_owners(passes, function))]
    while places:
        path, owners = places.pop()
        found.append(path)
        # The empty path is found first; it is not counted.
        if len(found) - 1 > most:
            raise TooMany(most + 1)
        places.extend(_places_behind(passes, path, owners))
    return tuple(found[1:])


def _places_behind(passes, path, owners):
    """The places behind the inlined calls of a place, the greatest path first."""
    found = []
    for callee in reversed(range(MOST_FUNCTIONS)):
        at = _inlined_at(passes, owners, callee)
        if at is not None:
            found.append((path + (callee,), _owners_behind(passes, owners, at)))
    return found


def line(passes, function, callee):
    """The number of calls of the longest inlined path that comes to the callee alone."""
    _check_function(passes, function)
    if not is_any_function(callee):
        raise InvalidFunction(callee)
    length, unrolled = 0, 0
    for mode, changed, reached in passes:
        if reached != callee:
            continue
        if changed == callee:
            unrolled += 1
        elif changed == function:
            length += 1 + (unrolled if mode == "now" else 0)
    return unrolled if function == callee else length
