"""The frames of plain runs, told by runs of flat programs: point [182]."""

from ringstays.brackets import written
from ringstays.errors import InvalidFunction, InvalidPosition
from ringstays.programs import callee
from ringstays.values import is_integer, is_within


def bracket_at(flat, function, position):
    """The path of the bracket that has the row at this position."""
    if not is_within(function, 0, len(flat.source) - 1):
        raise InvalidFunction(function)
    number = _number_at(flat, function, position)
    if number is None:
        raise InvalidPosition(position)
    return flat.paths[function][number]


def _number_at(flat, function, position):
    """The number of the bracket of a row, None for any value that leads to no row."""
    if not isinstance(position, tuple) or not all([is_integer(at) for at in position]):
        return None
    if position == (len(flat.source.functions[function][1]),):
        return 0
    return flat.numbers[function].get(position)


def plain_frames(flat, run):
    """The frames (function, names) of the plain run, told by a run of the flat source."""
    found = []
    for function, position, names in run.frames():
        path = bracket_at(flat, function, position)
        for length in range(len(path) + 1):
            number = flat.paths[function].index(path[:length])
            found.append((callee(flat.program, function, path[:length]), _names_with(names, number)))
    return found


def _names_with(names, number):
    """The names of the source that are written with this number, with their worths."""
    end = written("", number)
    return {name.removesuffix(end): worth for name, worth in names.items() if name.endswith(end)}
