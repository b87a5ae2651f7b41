"""Source programs: point [172]."""

from ringstays.errors import BadSource, TooManyCalls
from ringstays.programs import MOST_CALLS_IN_ROW, Program
from ringstays.rows import MOST_DEPTH, MOST_ROWS, all_rows, are_names, callees_of, is_row, rows_within
from ringstays.values import MOST_FUNCTIONS, is_list


class Source:
    """Functions, each with its names and its rows."""

    def __init__(self, functions):
        at = _first_wrong(functions)
        if at is not None:
            raise BadSource(at)
        self.functions = _in_tuples(functions)

    def __len__(self):
        return len(self.functions)

    def __eq__(self, other):
        return isinstance(other, Source) and self.functions == other.functions


def _first_wrong(value):
    """The index of the function that makes any value no list of functions, -1 for none in particular."""
    if not is_list(value) or not 1 <= len(value) <= MOST_FUNCTIONS:
        return -1
    for at, item in enumerate(value):
        if not _is_item(item, len(value)):
            return at
    for at, (_, rows) in enumerate(value):
        if not all([_fits(row, value) for row in all_rows(rows)]):
            return at
    return None


def _is_item(value, count):
    """Whether any value is one of so many functions, the numbers of sums in calls left aside."""
    return isinstance(value, tuple) and len(value) == 2 and are_names(value[0]) and _are_rows(value[1], count)


def _are_rows(value, count):
    """Whether any value is a list of rows as a function may have them."""
    seen = 0
    rest = [(value, 1)]
    while rest:
        rows, depth = rest.pop()
        if not is_list(rows) or (depth > MOST_DEPTH and len(rows) > 0):
            return False
        # They are counted first: the same list may stand in itself again and again.
        seen += len(rows)
        if seen > MOST_ROWS or not all([is_row(row, count) for row in rows]):
            return False
        rest.extend([(inner, depth + 1) for row in rows for inner in rows_within(row)])
    return True


def _fits(row, functions):
    """Whether a row calls each function with as many sums as this has names."""
    return all([len(row[-1]) == len(functions[function][0]) for function in callees_of(row)])


def _in_tuples(value):
    """The value with tuples in the place of all lists."""
    return tuple([_in_tuples(part) for part in value]) if is_list(value) else value


def program_of(source):
    """The Program in which each function has the calls of its rows, in the order of the text."""
    calls = []
    for function, (_, rows) in enumerate(source.functions):
        calls.append([callee for row in all_rows(rows) for callee in callees_of(row)])
        if len(calls[-1]) > MOST_CALLS_IN_ROW:
            raise TooManyCalls(function)
    return Program(calls)
