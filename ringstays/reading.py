"""Pass lists read back from the bodies that they made: point [83]."""

from ringstays.errors import NoOrder, NotACopy, TooMany
from ringstays.graphs import find_cycle, in_order
from ringstays.passes import MOST_PASSES, is_pass_list, run_passes
from ringstays.peeling import check_complete, check_peeled, row_with_stages


def passes_from(bodies):
    """A pass list without unrolling that makes the bodies of their program."""
    program = bodies.program
    check_complete(program)
    check_peeled(bodies.size())
    told = [row_with_stages(program, function, row) for function, row in enumerate(bodies.inlined)]
    entries = _read_entries([changes for changes, _ in told], [stages for _, stages in told])
    behind = _entries_behind(entries)
    cycle = find_cycle(list(entries), lambda entry: list(behind[entry]))
    if cycle is not None:
        raise NoOrder(cycle)
    if len(entries) > MOST_PASSES:
        raise TooMany(len(entries))
    order = in_order(list(entries), lambda entry: behind[entry])
    return [_pass_of(entry, entries) for entry in order]


def _read_entries(rows, stages):
    """A dict with the callee of each entry and the number of changes of the callee that its copy shows."""
    entries = {}
    for function, row in enumerate(rows):
        for at, (callee, copy) in enumerate(row):
            count = _stage_of(copy, stages[callee])
            if count is None:
                raise NotACopy(function, at)
            entries[(function, at)] = (callee, count)
    return entries


def _stage_of(copy, stages):
    """The number of changes behind which a body is just the copy, None if there is none."""
    # A body has more paths behind each change, so at most one is as large as the copy.
    for count, stage in enumerate(stages):
        if len(stage) == len(copy):
            return count if stage == copy else None
    return None


def _entries_behind(entries):
    """For each entry those that it is ahead of, but for such as follow from others."""
    behind = {entry: [] for entry in entries}
    for (function, at), (callee, count) in entries.items():
        if at:
            behind[(function, at - 1)].append((function, at))
        if count:
            behind[(callee, count - 1)].append((function, at))
        if count and (callee, count) in entries:
            behind[(function, at)].append((callee, count))
    return behind


def _pass_of(entry, entries):
    callee, count = entries[entry]
    return "now" if count else "first", entry[0], callee


def is_passes_from(bodies, value):
    """Whether any value is a pass list without unrolling that makes the bodies of their program."""
    check_complete(bodies.program)
    if not is_pass_list(value) or any([function == callee for _, function, callee in value]):
        return False
    try:
        return run_passes(bodies.program, value) == bodies
    except TooMany:
        return False
