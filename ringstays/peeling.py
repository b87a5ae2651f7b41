"""Last changes of bodies of complete programs, and the rows that peeling gives: points [81] and [82]."""

from ringstays.bodies import bodies_of, copy_in, original_rows, with_row
from ringstays.errors import NoChange, NoRow, NotComplete, OriginalBody, TooMany
from ringstays.places import Places, shapes_of
from ringstays.programs import check_function

MOST_PEELED = 400


def check_complete(program):
    for function, row in enumerate(program.calls):
        if row != tuple(range(len(program))):
            raise NotComplete(function)


def check_peeled(count):
    if count > MOST_PEELED:
        raise TooMany(count)


def last_change(bodies, function):
    """The last change (callee, copy) of the function's body, None if the body is original."""
    change = _change_of(bodies, function)
    return None if change is None else change[0]


def peel(bodies, function):
    """The Bodies in which the last change of the function is taken back."""
    change = _change_of(bodies, function)
    if change is None:
        raise OriginalBody(function)
    return bodies_of(bodies.program, with_row(bodies.inlined, function, change[1]))


def _check(bodies, function):
    check_function(bodies.program, function)
    check_complete(bodies.program)
    check_peeled(len(bodies.inlined[function]))


def _change_of(bodies, function):
    """The last change and the row that is left without it, None if the body is original."""
    _check(bodies, function)
    row = bodies.inlined[function]
    if not row:
        return None
    change = _change_in(bodies.program, function, row)
    if change is None:
        raise NoChange(function)
    return change


def _change_in(program, function, row):
    """The last change of a body and the row that is left without it, None if it has no last change."""
    places = Places(program, with_row(original_rows(program), function, row))
    shapes = shapes_of(places)
    top = places.tops[function]
    for callee in range(len(program)):
        last = _end_of_line(places, top, callee)
        # The call at the end of the line is open, so just the copy there can be that of the last change.
        if callee == function or last == top:
            continue
        struck = _struck(places, shapes, shapes[last])
        if _hides_all(places, top, struck, callee):
            left = tuple([path for at, path in enumerate(row) if not struck[top + 1 + at]])
            return (callee, copy_in(row, last - top - 1)), left
    return None


def _end_of_line(places, place, callee):
    """The place behind all inlined calls of the callee, one behind the other."""
    while not places.at_top[places.leads[place][callee]]:
        place = places.leads[place][callee]
    return place


def _struck(places, shapes, shape):
    """For each place whether it has this shape or is behind one that has it."""
    struck = [number == shape for number in shapes]
    for place, leads in enumerate(places.leads):
        for behind in leads:
            if struck[place] and not places.at_top[behind]:
                struck[behind] = True
    return struck


def _hides_all(places, top, struck, callee):
    """Whether all open calls of the callee in the body with this top are at places that are struck."""
    function = places.standing[top]
    for place, leads in enumerate(places.leads):
        if places.paths[place][0] == function and places.at_top[leads[callee]] and not struck[place]:
            return False
    return True


def read_row(bodies, function):
    """The row of the function: its last changes, the one met last standing first."""
    _check(bodies, function)
    return row_with_stages(bodies.program, function, bodies.inlined[function])[0]


def row_with_stages(program, function, row):
    """The row of the function and its bodies behind each number of changes, the original one first."""
    changes, stages = [], [row]
    while stages[-1]:
        change = _change_in(program, function, stages[-1])
        if change is None:
            raise NoRow(function)
        changes.append(change[0])
        stages.append(change[1])
    return changes[::-1], stages[::-1]
