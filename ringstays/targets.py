"""Steps that inline wanted paths of one function: point [151]."""

from ringstays.errors import BlockedTarget, InvalidTargets, TooMany
from ringstays.growing import Growth, first_open
from ringstays.programs import check_function, led_to
from ringstays.values import is_list

MOST_TARGETS = 6
MOST_TARGET_CALLS = 12
MOST_REACHED_CALLS = 8
MOST_GROWING = 8


def _check_targets(bodies, function, paths):
    check_function(bodies.program, function)
    if not _are_targets(bodies.program, function, paths):
        raise InvalidTargets(paths)


def _are_targets(program, function, value):
    if not is_list(value) or not 1 <= len(value) <= MOST_TARGETS:
        return False
    for path in value:
        if led_to(program, function, path) is None or path == ():
            return False
    return sum([len(path) for path in value]) <= MOST_TARGET_CALLS


def blocked_target(bodies, function, paths):
    """The first target whose first open call is a self call, None if there is none."""
    _check_targets(bodies, function, paths)
    for path in paths:
        step = first_open(bodies.inlined[function], path)
        if step is not None and led_to(bodies.program, function, step) == function:
            return path
    return None


def reach_targets(bodies, function, paths):
    """A log of mode "now" behind which all targets are inlined in the body of the function."""
    blocked = blocked_target(bodies, function, paths)
    if blocked is not None:
        raise BlockedTarget(blocked)
    if bodies.size() > MOST_GROWING:
        raise TooMany(bodies.size())
    count = sum([len(path) for path in paths])
    if count > MOST_REACHED_CALLS:
        raise TooMany(count)
    growth = Growth(bodies)
    for path in paths:
        _reach(growth, function, path, paths)
    return growth.log


def _reach(growth, function, path, paths):
    """Inline one target; no target is blocked ahead of this nor behind it."""
    step = growth.first_open(function, path)
    while step is not None:
        callee = led_to(growth.program, function, step)
        # What the callee's body has open in this moment is open in the function's body behind the step.
        for other in paths:
            if other[:len(step)] == step:
                _take_out_calls(growth, callee, other[len(step):], function)
        growth.inline(function, step)
        step = growth.first_open(function, path)


def _take_out_calls(growth, function, path, barred):
    """Do steps of the function until its first open call along the path does not lead to the barred one."""
    step = growth.first_open(function, path)
    while step is not None and led_to(growth.program, function, step) == barred:
        growth.inline(function, step)
        step = growth.first_open(function, path)
