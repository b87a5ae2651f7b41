"""Programs and paths, complete and ranked programs: points [22] and [23]."""

from ringstays.errors import InvalidCalls, InvalidCount, InvalidFunction, InvalidNames
from ringstays.errors import InvalidOrder, InvalidPath, NoCall
from ringstays.values import MOST_CALLS, MOST_FUNCTIONS, is_integer, is_list, is_within

MOST_CALLS_IN_ROW = 8


class Program:
    """Functions, each with the row of the callees of its calls."""

    def __init__(self, calls):
        if not _are_calls(calls):
            raise InvalidCalls(calls)
        self.calls = tuple([tuple(row) for row in calls])

    def __len__(self):
        return len(self.calls)

    def __eq__(self, other):
        return isinstance(other, Program) and self.calls == other.calls


def _are_calls(value):
    if not is_list(value) or not 1 <= len(value) <= MOST_FUNCTIONS:
        return False
    return all([_is_row_of_calls(row, len(value)) for row in value])


def _is_row_of_calls(value, count):
    if not is_list(value) or len(value) > MOST_CALLS_IN_ROW:
        return False
    return all([is_within(function, 0, count - 1) for function in value])


def is_function(program, value):
    """Whether any value is a function of the program."""
    return is_within(value, 0, len(program) - 1)


def check_function(program, function):
    if not is_function(program, function):
        raise InvalidFunction(function)


def led_to(program, function, value, most=MOST_CALLS):
    """The function to which the path leads, and None for a value that is no path of at most so many calls."""
    if not isinstance(value, tuple) or len(value) > most:
        return None
    for call in value:
        row = program.calls[function]
        if not is_integer(call) or not 0 <= call < len(row):
            return None
        function = row[call]
    return function


def check_path(program, function, path):
    """Raise what a path from a function is due; return the function to which it leads."""
    check_function(program, function)
    reached = led_to(program, function, path)
    if reached is None:
        raise InvalidPath(path)
    return reached


def callee(program, function, path):
    """The function to which the path leads."""
    return check_path(program, function, path)


def names(program, function, path):
    """The functions to which the calls of the path lead, one for each call."""
    check_path(program, function, path)
    found = []
    for call in path:
        function = program.calls[function][call]
        found.append(function)
    return tuple(found)


def is_path(program, function, value):
    """Whether any value is a path from the function."""
    check_function(program, function)
    return led_to(program, function, value) is not None


def path_of(program, function, names):
    """The path with these names, each call the least one that has its name."""
    check_function(program, function)
    if not _are_names(program, names):
        raise InvalidNames(names)
    path = []
    for at, name in enumerate(names):
        row = program.calls[function]
        if name not in row:
            raise NoCall(at)
        path.append(row.index(name))
        function = name
    return tuple(path)


def _are_names(program, value):
    if not isinstance(value, tuple) or len(value) > MOST_CALLS:
        return False
    return all([is_function(program, name) for name in value])


def complete(count):
    """The program of so many functions in which each calls each one once, in ascending order."""
    if not is_within(count, 1, MOST_FUNCTIONS):
        raise InvalidCount(count)
    return Program([list(range(count)) for _ in range(count)])


def ranked(order):
    """The program in which each function calls those that stand behind it in the order."""
    if not is_order(order):
        raise InvalidOrder(order)
    calls = [[] for _ in order]
    for at, function in enumerate(order):
        calls[function] = sorted(order[at + 1:])
    return Program(calls)


def is_order(value):
    """Whether any value is a list of the functions from 0 on, up to some one, each once."""
    if not is_list(value) or not 1 <= len(value) <= MOST_FUNCTIONS:
        return False
    if not all([is_integer(function) for function in value]):
        return False
    return sorted(value) == list(range(len(value)))
