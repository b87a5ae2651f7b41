"""Logs: points [33], [34] and [35]."""

from ringstays.bodies import bodies_of
from ringstays.errors import InlineError, InvalidLog, Stopped
from ringstays.steps import rows_folded, rows_inlined
from ringstays.values import is_any_function, is_any_path, is_list, is_mode

MOST_STEPS = 2000


def _is_step(value):
    if not isinstance(value, tuple) or len(value) != 3:
        return False
    function, path, mode = value
    return is_any_function(function) and is_mode(mode) and is_any_path(path)


def check_log(log):
    if not is_list(log) or len(log) > MOST_STEPS or not all([_is_step(step) for step in log]):
        raise InvalidLog(log)


def _done(bodies, log, change):
    """The rows behind the log, and how many more paths each step has left in its body."""
    check_log(log)
    program, inlined, grown = bodies.program, bodies.inlined, []
    for at, (function, path, mode) in enumerate(log):
        try:
            behind = change(program, inlined, function, path, mode == "first")
        except InlineError:
            raise Stopped(at, bodies_of(program, inlined)) from None
        grown.append(len(behind[function]) - len(inlined[function]))
        inlined = behind
    return inlined, grown


def apply_log(bodies, log):
    """The Bodies behind the steps of the log, done one by one."""
    return bodies_of(bodies.program, _done(bodies, log, rows_inlined)[0])


def is_log(bodies, value):
    """Whether any value is a log for which apply_log raises nothing."""
    try:
        apply_log(bodies, value)
    except InlineError:
        return False
    return True


def fold_log(bodies, log):
    """The Bodies behind the foldings of the log, done one by one."""
    return bodies_of(bodies.program, _done(bodies, log, rows_folded)[0])


def copied(bodies, log):
    """How many original bodies each step of the log puts in."""
    return _done(bodies, log, rows_inlined)[1]


def backward(log):
    """The steps of the log, the last one first."""
    check_log(log)
    return list(reversed(log))
