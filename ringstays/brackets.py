"""Rows with brackets in the place of inlined calls, on which points [181] and [182] rest.

A *target* is where rows are written: a tuple of a list of rows, the position of what the list
stands in, and the depth of its rows.
"""

from ringstays.errors import LongName, TooMany, TooNested
from ringstays.rows import MOST_DEPTH, MOST_ROWS, all_rows, has_give, names_in
from ringstays.sums import MOST_IN_NAME


def written(name, number):
    """A name of the source as it is written in the bracket with this number."""
    return f"{name}x{number}"


def made_name(kind, number):
    """The name that a bracket has beside those of the source: gx, mx or kx."""
    return f"{kind}{number}y"


def _written_sum(given, number):
    if isinstance(given, str):
        return written(given, number)
    if not isinstance(given, tuple) or given[0] == "cell":
        return given
    kind, one, other = given
    return kind, _written_sum(one, number), _written_sum(other, number)


def _written_row(row, number):
    """A row that has no rows within, as it is written in the bracket with this number."""
    kind = row[0]
    if kind in ("show", "give"):
        return kind, _written_sum(row[1], number)
    if kind == "store":
        return kind, row[1], _written_sum(row[2], number)
    name = None if row[1] is None else written(row[1], number)
    if kind == "set":
        return kind, name, _written_sum(row[2], number)
    return kind, name, *row[2:-1], [_written_sum(given, number) for given in row[-1]]


class Bracket:
    """The rows of one function at one place: the number and the path, and how many calls have been written."""

    def __init__(self, number, path):
        self.number, self.path, self.calls = number, path, 0

    def next_path(self):
        """The path of the next call of the function."""
        path = self.path + (self.calls,)
        self.calls += 1
        return path


class Writer:
    """The rows of one function, with what is inlined in it: `rows`, and for each row's position its number.

    `paths` are those of the brackets, by their numbers. Rows are written in the order of the text,
    so the first one that is too many or too deep is met first.
    """

    def __init__(self, source, function, inlined):
        self.source, self.function = source, function
        self.inlined = {path: True for path in inlined}
        self.rows, self.numbers, self.paths = [], {}, [()]
        # What is still to be done, the first of it last: tuples of a method and its arguments. Brackets
        # stand in brackets in rows within rows, so methods that call each other would go too deep.
        self._rest = []

    def write(self):
        """Write all rows."""
        _, rows = self.source.functions[self.function]
        self._put_rows(Bracket(0, ()), rows, (self.rows, (), 1))
        while self._rest:
            method, arguments = self._rest.pop()
            method(*arguments)
        self._check_names()

    def written_names(self):
        """The names of the function as they are written."""
        return tuple([written(name, 0) for name in self.source.functions[self.function][0]])

    def _check_names(self):
        found = list(self.written_names())
        for row in all_rows(self.rows):
            found.extend(names_in(row))
        for name in found:
            if len(name) > MOST_IN_NAME:
                raise LongName(name)

    def _later(self, tasks):
        self._rest.extend(tasks[::-1])

    def _put(self, bracket, row, target):
        """Put a row as it is; return its position."""
        rows, place, depth = target
        if len(self.numbers) == MOST_ROWS:
            raise TooMany(MOST_ROWS + 1)
        if depth > MOST_DEPTH:
            raise TooNested(self.function)
        position = place + (len(rows),)
        self.numbers[position] = bracket.number
        rows.append(row)
        return position

    def _put_ask(self, bracket, given, target):
        """Put an ask with this sum; return the targets for its rows."""
        first, second = [], []
        position = self._put(bracket, ("ask", given, first, second), target)
        return (first, position + (0,), target[2] + 1), (second, position + (1,), target[2] + 1)

    def _put_rows(self, bracket, rows, target):
        """Put rows of the source; in a bracket, those behind one with a give into an ask."""
        if rows:
            following = self._put_rows
            if bracket.number > 0 and has_give(rows[0]):
                following = self._put_unless_given
            self._later([(self._put_row, (bracket, rows[0], target)), (following, (bracket, rows[1:], target))])

    def _put_unless_given(self, bracket, rows, target):
        """Put rows of the source into an ask, if there are any, which does them as long as nothing is given."""
        if rows:
            _, second = self._put_ask(bracket, made_name("mx", bracket.number), target)
            self._put_rows(bracket, rows, second)

    def _put_row(self, bracket, row, target):
        kind, number = row[0], bracket.number
        if kind == "ask":
            first, second = self._put_ask(bracket, _written_sum(row[1], number), target)
            self._later([(self._put_rows, (bracket, row[2], first)), (self._put_rows, (bracket, row[3], second))])
        elif kind == "times":
            self._put_times(bracket, row, target)
        elif kind == "call":
            self._put_call(bracket, bracket.next_path(), row, target)
        elif kind == "choose":
            self._put_choose(bracket, row, target)
        elif kind == "give" and number > 0:
            self._put(bracket, ("set", made_name("gx", number), _written_sum(row[1], number)), target)
            self._put(bracket, ("set", made_name("mx", number), 1), target)
        else:
            self._put(bracket, _written_row(row, number), target)

    def _put_times(self, bracket, row, target):
        rows = []
        position = self._put(bracket, ("times", _written_sum(row[1], bracket.number), rows), target)
        put = self._put_rows
        if bracket.number > 0 and has_give(row):
            put = self._put_unless_given
        self._later([(put, (bracket, row[2], (rows, position, target[2] + 1)))])

    def _put_call(self, bracket, path, row, target):
        """Put a call, or the bracket that stands in its place if it is inlined."""
        if path not in self.inlined:
            self._put(bracket, _written_row(row, bracket.number), target)
            return
        _, name, function, sums = row
        inner = Bracket(len(self.paths), path)
        self.paths.append(path)
        given = made_name("gx", inner.number)
        self._put_first_sets(bracket, inner, function, sums, target)
        tasks = [(self._put_rows, (inner, self.source.functions[function][1], target))]
        if name is not None:
            tasks.append((self._put, (bracket, ("set", written(name, bracket.number), given), target)))
        self._later(tasks)

    def _put_first_sets(self, bracket, inner, function, sums, target):
        """Put the sets with which a bracket within another one begins."""
        names, rows = self.source.functions[function]
        for name, given in zip(names, sums):
            self._put(inner, ("set", written(name, inner.number), _written_sum(given, bracket.number)), target)
        others = [written(name, inner.number) for name in _other_names(names, rows)]
        for name in others + [made_name("gx", inner.number), made_name("mx", inner.number)]:
            self._put(inner, ("set", name, 0), target)

    def _put_choose(self, bracket, row, target):
        """Put a choose, or asks for each of its functions if one of its calls is inlined."""
        _, name, cell, functions, sums = row
        paths = [bracket.next_path() for _ in functions]
        if not any([path in self.inlined for path in paths]):
            self._put(bracket, _written_row(row, bracket.number), target)
            return
        chosen = made_name("kx", len(self.paths))
        self._put(bracket, ("set", chosen, ("rest", ("cell", cell), len(functions))), target)
        tasks = []
        for at, (function, path) in enumerate(zip(functions, paths)):
            given = ("mul", ("sub", 1, ("less", chosen, at)), ("sub", 1, ("less", at, chosen)))
            tasks.append((self._put_chosen, (bracket, path, ("call", name, function, sums), given, target)))
        self._later(tasks)

    def _put_chosen(self, bracket, path, row, given, target):
        """Put a call of a choose into an ask with this sum."""
        first, _ = self._put_ask(bracket, given, target)
        self._put_call(bracket, path, row, first)


def _other_names(names, rows):
    """The ascending list of the names that stand in some rows but are not those of their function."""
    found = [name for row in all_rows(rows) for name in names_in(row)]
    return [name for name in sorted(set(found)) if name not in names]
