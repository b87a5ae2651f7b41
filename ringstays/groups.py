"""Least groups of original bodies to keep, and the components of a program: points [113] and [114]."""

from itertools import combinations

from ringstays.bodies import bodies_of
from ringstays.errors import InvalidComponent, TooMany
from ringstays.keeping import is_enough
from ringstays.values import is_integer, is_list

MOST_GROUPED = 200


def _check_count(bodies):
    if bodies.size() > MOST_GROUPED:
        raise TooMany(bodies.size())


def _groups(program):
    """All groups of functions of the program, those of fewer functions first."""
    count = len(program)
    return [list(group) for size in range(count + 1) for group in combinations(range(count), size)]


def _holds(group, other):
    """Whether each function of the other group is in the group."""
    return all([function in group for function in other])


def _least_groups(bodies):
    found = []
    for group in _groups(bodies.program):
        # A group that holds an enough group is enough, but not least.
        if not any([_holds(group, least) for least in found]) and is_enough(bodies, group):
            found.append(group)
    return sorted(found)


def least_groups(bodies):
    """The ascending list of the groups that are enough and hold no other group that is enough."""
    _check_count(bodies)
    return _least_groups(bodies)


def too_small(bodies):
    """The ascending list of the groups that are not enough and are held by no other group that is not."""
    _check_count(bodies)
    least, found = _least_groups(bodies), []
    for group in reversed(_groups(bodies.program)):
        enough = any([_holds(group, other) for other in least])
        if not enough and not any([_holds(other, group) for other in found]):
            found.append(group)
    return sorted(found)


def needed_originals(bodies):
    """The ascending list of the functions that are in each of the least groups."""
    _check_count(bodies)
    least = _least_groups(bodies)
    return [function for function in range(len(bodies.program)) if all([function in group for group in least])]


def components(program):
    """The ascending list of the components of the program."""
    reached = [all_led_to(program, function) for function in range(len(program))]
    found = []
    for function, others in enumerate(reached):
        component = [other for other in others if function in reached[other]]
        if component and component[0] == function:
            found.append(component)
    return found


def all_led_to(program, function):
    """The ascending list of the functions to which paths from the function lead that are not empty."""
    met = {}
    rest = [function]
    while rest:
        for callee in program.calls[rest.pop()]:
            if callee not in met:
                met[callee] = True
                rest.append(callee)
    return sorted(met)


def within(bodies, component):
    """The Bodies in which just those paths are inlined that come to functions of the component alone."""
    program = bodies.program
    if not _is_component(program, component):
        raise InvalidComponent(component)
    rows = []
    for function, row in enumerate(bodies.inlined):
        rows.append(_row_within(program, function, row, component) if function in component else ())
    return bodies_of(program, tuple(rows))


def _is_component(program, value):
    if not is_list(value) or not all([is_integer(function) for function in value]):
        return False
    return list(value) in components(program)


def _row_within(program, function, row, component):
    """The paths of a row whose names are all in the component."""
    callees = {(): function}
    for path in row:
        # A path stands behind its beginnings.
        if path[:-1] in callees:
            reached = program.calls[callees[path[:-1]]][path[-1]]
            if reached in component:
                callees[path] = reached
    return tuple([path for path in row if path in callees])
