"""Single steps and foldings: points [31] and [32]."""

from ringstays.bodies import bodies_of, body_calls, check_count, copy_in, count_inlined
from ringstays.bodies import holds, is_copy_in, open_calls, position, with_row
from ringstays.errors import NotInlined, NotOpen, NotOriginal, NotPresent, SelfCall
from ringstays.programs import check_path


def inlinable(bodies):
    """The ascending list of (function, path) of all open calls that lead to another function."""
    found = []
    for function, row in enumerate(bodies.inlined):
        for place, call, callee in open_calls(bodies.program, function, row):
            if callee != function:
                found.append((function, place + (call,)))
    return found


def inline_call(bodies, function, path, *, original=False):
    """The Bodies behind the step that inlines this open call."""
    rows = rows_inlined(bodies.program, bodies.inlined, function, path, original)
    return bodies_of(bodies.program, rows)


def rows_inlined(program, inlined, function, path, original):
    """The rows behind the step that inlines this open call."""
    callee = check_path(program, function, path)
    row = inlined[function]
    if holds(row, path) or not holds(row, path[:-1]):
        raise NotOpen(path)
    if callee == function and not original:
        raise SelfCall(function)
    copy = () if original else inlined[callee]
    check_count(count_inlined(inlined) + 1 + len(copy))
    at = position(row, path)
    return with_row(inlined, function, row[:at] + put_at(path, copy) + row[at:])


def put_at(path, copy):
    """The ascending tuple of the paths that are inlined with a path when this copy is put behind it."""
    return (path, *[path + part for part in copy])


def foldable(bodies):
    """The ascending list of (function, path) whose copy is just the present body of the callee."""
    found = []
    for function, row in enumerate(bodies.inlined):
        for at, callee in enumerate(_callees_in(bodies.program, function, row)):
            if is_copy_in(row, at, bodies.inlined[callee]):
                found.append((function, row[at]))
    return found


def _callees_in(program, function, row):
    """The functions to which the paths of a row lead, in its order."""
    found = body_calls(program, function, row)
    return [callee for _, _, callee, inlined in found if inlined]


def fold_call(bodies, function, path, *, original=False):
    """The Bodies in which this path and all behind it are no longer inlined."""
    rows = rows_folded(bodies.program, bodies.inlined, function, path, original)
    return bodies_of(bodies.program, rows)


def rows_folded(program, inlined, function, path, original):
    """The rows in which this path and all behind it are no longer inlined."""
    callee = check_path(program, function, path)
    row = inlined[function]
    if path == () or not holds(row, path):
        raise NotInlined(path)
    at = position(row, path)
    copy = copy_in(row, at)
    if original and copy:
        raise NotOriginal(copy[0])
    if not original and copy != inlined[callee]:
        raise NotPresent(_least_difference(copy, inlined[callee]))
    return with_row(inlined, function, row[:at] + row[at + 1 + len(copy):])


def _least_difference(one, other):
    """The least path that is in just one of two rows, of which one is not the other."""
    for first, second in zip(one, other):
        if first != second:
            return min(first, second)
    # Where one row begins with the other one, the first path that it has behind this is the least.
    longer = one if len(one) > len(other) else other
    return longer[min(len(one), len(other))]
