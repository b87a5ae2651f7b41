"""Programs that are edited, with their bodies and logs: points [143] and [144]."""

from ringstays.bodies import bodies_of
from ringstays.errors import InvalidEdit, InvalidLog
from ringstays.logs import check_log
from ringstays.programs import MOST_CALLS_IN_ROW, Program, is_function, led_to
from ringstays.values import is_within


def _check_edit(program, edit):
    if not _is_edit(program, edit):
        raise InvalidEdit(edit)


def _is_edit(program, value):
    if not isinstance(value, tuple) or len(value) != 3:
        return False
    kind, function, told = value
    if not is_function(program, function):
        return False
    count = len(program.calls[function])
    if kind == "add":
        return is_function(program, told) and count < MOST_CALLS_IN_ROW
    return kind == "strike" and is_within(told, 0, count - 1)


def edit_program(program, edit):
    """The Program behind the edit."""
    _check_edit(program, edit)
    return _edited_program(program, edit)


def _edited_program(program, edit):
    kind, function, told = edit
    rows = [list(row) for row in program.calls]
    if kind == "add":
        rows[function].append(told)
    else:
        del rows[function][told]
    return Program(rows)


def edited(bodies, edit):
    """The Bodies of the edited program."""
    program = bodies.program
    _check_edit(program, edit)
    rows = []
    for function, row in enumerate(bodies.inlined):
        paths = [_moved(program, edit, function, path) for path in row]
        # Paths of one row keep their order, since all of their calls that differ first stand in one row.
        rows.append(tuple([path for path in paths if path is not None]))
    return bodies_of(_edited_program(program, edit), tuple(rows))


def _moved(program, edit, function, path):
    """The path with the numbers that its calls have then, None if it goes through the struck call."""
    kind, changed, struck = edit
    if kind == "add":
        return path
    found = []
    for call in path:
        if function == changed and call == struck:
            return None
        found.append(call - 1 if function == changed and call > struck else call)
        function = program.calls[function][call]
    return tuple(found)


def moved_log(program, log, edit):
    """The steps of the log that the edit leaves, for the edited program."""
    check_log(log)
    if not all([_is_in(program, function, path) for function, path, _ in log]):
        raise InvalidLog(log)
    _check_edit(program, edit)
    steps = [(function, _moved(program, edit, function, path), mode) for function, path, mode in log]
    return [step for step in steps if step[1] is not None]


def _is_in(program, function, path):
    """Whether the function is one of the program and the path a path from it."""
    return is_function(program, function) and led_to(program, function, path) is not None
