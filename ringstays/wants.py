"""Logs that inline what each function wants: point [152].

A *call* is here a tuple (function, number) of a function and one of its call numbers.
"""

from ringstays.bodies import Bodies
from ringstays.errors import InvalidGroup, InvalidWants, TooMany, UnmetWants
from ringstays.graphs import find_cycle, in_order
from ringstays.growing import Growth
from ringstays.programs import led_to
from ringstays.values import is_group, is_list

MOST_WANTED_CALLS = 2
MOST_MET = 4


def _check_wants(program, wants, group):
    if not _are_wants(program, wants):
        raise InvalidWants(wants)
    if not is_group(group, len(program)):
        raise InvalidGroup(group)


def _are_wants(program, value):
    if not is_list(value) or len(value) != len(program):
        return False
    return all([_is_row_of_wants(program, function, row) for function, row in enumerate(value)])


def _is_row_of_wants(program, function, value):
    if not is_list(value):
        return False
    known = {(): True}
    for path in value:
        # A value that is no path may not be fit for a key, so this is asked first.
        if led_to(program, function, path, MOST_WANTED_CALLS) is None or path in known:
            return False
        known[path] = True
    return True


def ahead(program, wants, group):
    """The ascending list of the pairs of calls of which the first one has to be inlined ahead of the second one."""
    _check_wants(program, wants, group)
    return _pairs(program, wants, group)


def _pairs(program, wants, group):
    found = []
    for function, paths in enumerate(wants):
        for path in paths:
            if function not in group and len(path) == 2 and led_to(program, function, path) == function:
                callee = program.calls[function][path[0]]
                found.append(((callee, path[1]), (function, path[0])))
    return sorted(found)


def wants_defect(program, wants, group):
    """What tells that no log meets the wants, None if one does."""
    _check_wants(program, wants, group)
    for function, paths in enumerate(wants):
        for path in paths:
            if function not in group and program.calls[function][path[0]] == function:
                return "self", function, path
    pairs = _pairs(program, wants, group)
    cycle = find_cycle([first for first, _ in pairs], lambda call: _calls_behind(pairs, call))
    if cycle is None:
        return None
    return "cycle", list(zip(cycle, cycle[1:] + cycle[:1]))


def _calls_behind(pairs, call):
    """The calls that have to be inlined behind this one."""
    return [behind for first, behind in pairs if first == call]


def meet_wants(program, wants, group):
    """A log from the original bodies behind which each wanted path is inlined."""
    defect = wants_defect(program, wants, group)
    if defect is not None:
        raise UnmetWants(defect)
    count = sum([len(paths) for paths in wants])
    if count > MOST_MET:
        raise TooMany(count)
    growth = Growth(Bodies(program))
    pairs = _pairs(program, wants, group)
    for function, call in in_order(_calls_of(wants, pairs), lambda one: _calls_behind(pairs, one)):
        growth.inline(function, (call,))
    for function, paths in enumerate(wants):
        for path in paths:
            # Where this is a self call of a function that is not in the group, the copy has had it.
            if growth.first_open(function, path) is not None:
                growth.inline(function, path)
    return growth.log


def _calls_of(wants, pairs):
    """All calls that are to be inlined first in their bodies."""
    found = [call for pair in pairs for call in pair]
    for function, paths in enumerate(wants):
        found.extend([(function, path[0]) for path in paths])
    return sorted(set(found))
