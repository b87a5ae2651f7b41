"""Visits and rows of visits: point [46]."""

from ringstays.bodies import bodies_of, check_count, count_inlined, open_calls, original_rows, with_row
from ringstays.errors import InvalidVisits
from ringstays.programs import check_function, is_function
from ringstays.steps import put_at
from ringstays.values import is_any_function, is_list

MOST_VISITS = 24


def visit(bodies, function):
    """The Bodies behind a visit of the function."""
    check_function(bodies.program, function)
    return bodies_of(bodies.program, _rows_visited(bodies.program, bodies.inlined, function))


def _rows_visited(program, inlined, function):
    """The rows behind a visit of the function."""
    found = open_calls(program, function, inlined[function])
    calls = [(place, call, callee) for place, call, callee in found if callee != function]
    # The count comes ahead of the paths: of bodies that are too large, these are never made.
    check_count(count_inlined(inlined) + sum([1 + len(inlined[callee]) for _, _, callee in calls]))
    row = list(inlined[function])
    for place, call, callee in calls:
        row.extend(put_at(place + (call,), inlined[callee]))
    return with_row(inlined, function, tuple(sorted(row)))


def check_visits(order):
    if not is_row_of_visits(order):
        raise InvalidVisits(order)


def is_row_of_visits(value):
    """Whether any value is a row of visits."""
    return is_list(value) and len(value) <= MOST_VISITS and all([is_any_function(function) for function in value])


def run_visits(program, order):
    """The Bodies behind the visits of the row, begun at the original bodies."""
    check_visits(order)
    inlined = original_rows(program)
    for function in order:
        if is_function(program, function):
            inlined = _rows_visited(program, inlined, function)
    return bodies_of(program, inlined)
