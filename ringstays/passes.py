"""Passes and runs of pass lists: points [41], [42], [43] and [45]."""

from ringstays.bodies import bodies_of, check_count, count_inlined, open_calls, original_rows, with_row
from ringstays.errors import InvalidPass, InvalidPasses
from ringstays.programs import check_function, is_function
from ringstays.steps import put_at
from ringstays.values import is_any_function, is_list, is_mode

MOST_PASSES = 60


def is_pass(value):
    """Whether any value is a pass."""
    if not isinstance(value, tuple) or len(value) != 3:
        return False
    mode, function, callee = value
    if not is_mode(mode) or not is_any_function(function) or not is_any_function(callee):
        return False
    return mode == "first" or function != callee


def is_pass_list(value):
    """Whether any value is a pass list."""
    return is_list(value) and len(value) <= MOST_PASSES and all([is_pass(one) for one in value])


def check_pass(one):
    if not is_pass(one):
        raise InvalidPass(one)


def check_passes(passes):
    if not is_pass_list(passes):
        raise InvalidPasses(passes)


def open_to(bodies, function, callee):
    """The ascending list of the open paths of the function's body that lead to the callee."""
    check_function(bodies.program, function)
    check_function(bodies.program, callee)
    found = _calls_to(bodies.program, bodies.inlined, function, callee)
    return [place + (call,) for place, call in found]


def _calls_to(program, inlined, function, callee):
    """The open calls (place, call) of the function's body that lead to the callee."""
    found = open_calls(program, function, inlined[function])
    return [(place, call) for place, call, reached in found if reached == callee]


def _calls_of_pass(program, inlined, one):
    """The open calls (place, call) that the pass inlines."""
    _, function, callee = one
    # Passes may name functions that the program does not have; no call leads to such a callee.
    if not is_function(program, function):
        return []
    return _calls_to(program, inlined, function, callee)


def _copy_of_pass(inlined, one):
    """What is inlined behind each call that the pass inlines."""
    mode, _, callee = one
    return inlined[callee] if mode == "now" else ()


def _paths_of_pass(program, inlined, one):
    """The open paths that the pass inlines, if not too many paths are inlined behind it."""
    calls = _calls_of_pass(program, inlined, one)
    if not calls:
        return []
    # The count comes ahead of the paths: of bodies that are too large, these are never made.
    check_count(count_inlined(inlined) + len(calls) * (1 + len(_copy_of_pass(inlined, one))))
    return [place + (call,) for place, call in calls]


def rows_passed(program, inlined, one):
    """The rows behind a pass."""
    paths = _paths_of_pass(program, inlined, one)
    if not paths:
        return inlined
    _, function, _ = one
    copy = _copy_of_pass(inlined, one)
    row = list(inlined[function])
    for path in paths:
        row.extend(put_at(path, copy))
    return with_row(inlined, function, tuple(sorted(row)))


def apply_pass(bodies, one):
    """The Bodies behind the pass."""
    check_pass(one)
    return bodies_of(bodies.program, rows_passed(bodies.program, bodies.inlined, one))


def pass_log(bodies, one):
    """The steps of the pass, one for each open path that it inlines."""
    check_pass(one)
    mode, function, _ = one
    return [(function, path, mode) for path in _paths_of_pass(bodies.program, bodies.inlined, one)]


def is_idle(bodies, one):
    """Whether the pass inlines nothing."""
    check_pass(one)
    return not _calls_of_pass(bodies.program, bodies.inlined, one)


def run_passes(program, passes):
    """The Bodies behind all passes of the list, begun at the original bodies."""
    check_passes(passes)
    inlined = original_rows(program)
    for one in passes:
        inlined = rows_passed(program, inlined, one)
    return bodies_of(program, inlined)


def touch(first, second):
    """Whether one of two passes changes what the other one changes or reads."""
    check_pass(first)
    check_pass(second)
    return first[1] in _touched(second) or second[1] in _touched(first)


def _touched(one):
    """The functions that the pass changes or reads."""
    mode, function, callee = one
    return (function, callee) if mode == "now" else (function,)
