"""Source programs as lines: point [175]."""

from ringstays.errors import BadLine
from ringstays.rows import MOST_DEPTH, MOST_NAMES, MOST_ROWS, are_names, callees_of, is_row
from ringstays.source import Source
from ringstays.sums import DIGITS, MOST_SUM_DEPTH
from ringstays.values import MOST_FUNCTIONS, is_list

SIGNS = {"add": "+", "sub": "-", "mul": "*", "less": "<", "rest": "rest"}
KINDS_OF_SIGNS = {"+": "add", "-": "sub", "*": "mul", "<": "less", "rest": "rest"}
MOST_SIGNS_IN_NUMBER = 5
SPACE = "  "


def lines(source):
    """The lines of the source."""
    found = []
    for function, (names, rows) in enumerate(source.functions):
        found.append(_write_head(function, names))
        found.extend(_lines_of(rows, 1))
        found.append("end")
    return found


def _write_head(function, names):
    return " ".join(["function", str(function), *names])


def _lines_of(rows, depth):
    """The lines of some rows of this depth."""
    found = []
    space = SPACE * depth
    for row in rows:
        found.append(space + _write_row(row))
        if row[0] in ("ask", "times"):
            found.extend(_lines_of(row[2], depth + 1))
            if row[0] == "ask":
                found.append(space + "else")
                found.extend(_lines_of(row[3], depth + 1))
            found.append(space + "end")
    return found


def _write_row(row):
    """The line of a row without the spaces ahead of it and without the rows within."""
    kind = row[0]
    if kind in ("set", "store"):
        return f"{kind} {row[1]} = {_write_sum(row[2])}"
    if kind in ("call", "choose"):
        goal = "" if row[1] is None else f"{row[1]} = "
        sums = ", ".join([_write_sum(given) for given in row[-1]])
        return f"{kind} {goal}{_write_called(row)} ({sums})"
    return f"{kind} {_write_sum(row[1])}"


def _write_called(row):
    if row[0] == "call":
        return str(row[2])
    functions = " ".join([str(function) for function in row[3]])
    return f"{row[2]} of {functions}"


def _write_sum(given):
    if not isinstance(given, tuple):
        return str(given)
    if given[0] == "cell":
        return f"[{given[1]}]"
    kind, one, other = given
    return f"({_write_sum(one)} {SIGNS[kind]} {_write_sum(other)})"


def read_source(lines):
    """The Source that has these lines."""
    if not is_list(lines):
        raise BadLine(-1)
    reader = Reader()
    for at, line in enumerate(lines):
        if not reader.take(line):
            raise BadLine(at)
    if not reader.is_whole():
        raise BadLine(len(lines))
    return Source(reader.functions)


class Reader:
    """What lines have told so far, of which each one is such that a source may go on with it.

    Any rows and functions that have begun can be ended, and those that are called can follow; so
    it is enough to look at what stands ahead of a line.
    """

    def __init__(self):
        self.functions = []
        # How many names the functions have that calls fixed; those are among them that are still to begin.
        self.counts = {}
        # The lists of rows that have not ended, the outermost first, and for each the rows behind its else to come.
        self.lists, self.others = [], []
        self.count = 0

    def is_whole(self):
        """Whether these are all lines of a source."""
        return not self.lists and len(self.functions) > max([0, *self.counts])

    def take(self, line):
        """Take one more line; tell whether the lines of a source may go on so."""
        if not isinstance(line, str):
            return False
        if not self.lists:
            return self._take_head(line)
        space = SPACE * (len(self.lists) - 1)
        if line == space + "else":
            return self._take_else()
        if line == space + "end":
            return self._take_end()
        return self._take_row(line)

    def _take_head(self, line):
        function = len(self.functions)
        names = tuple(line.split(" ")[2:])
        if function == MOST_FUNCTIONS or not are_names(names) or line != _write_head(function, names):
            return False
        self.functions.append((names, []))
        self.count = 0
        self._begin(self.functions[-1][1], None)
        return self._fits(function, len(names))

    def _begin(self, rows, other):
        self.lists.append(rows)
        self.others.append(other)

    def _fits(self, function, count):
        """Fix how many names a function has; tell whether it may have so many."""
        return count <= MOST_NAMES and self.counts.setdefault(function, count) == count

    def _take_else(self):
        rows = self.others.pop()
        self.lists.pop()
        self._begin(rows, None)
        return rows is not None

    def _take_end(self):
        self.lists.pop()
        return self.others.pop() is None

    def _take_row(self, line):
        space = SPACE * len(self.lists)
        row = read_row(line[len(space):]) if line.startswith(space) else None
        if row is None or len(self.lists) > MOST_DEPTH or self.count == MOST_ROWS:
            return False
        self.count += 1
        self.lists[-1].append(row)
        if row[0] == "ask":
            self._begin(row[2], row[3])
        if row[0] == "times":
            self._begin(row[2], None)
        return all([self._fits(function, len(row[-1])) for function in callees_of(row)])


def read_row(text):
    """The row of which this is the line without spaces ahead, with no rows within; None if there is none."""
    kind, _, rest = text.partition(" ")
    row = _read_parts(kind, rest)
    # What is read is not judged further: a text is right if it is just what is written again.
    return row if is_row(row, MOST_FUNCTIONS) and _write_row(row) == text else None


def _read_parts(kind, text):
    """A row of this kind, if it is one, with what the text behind the kind may tell."""
    if kind in ("call", "choose"):
        return _read_call(kind, text)
    if kind in ("set", "store"):
        word, _, rest = text.partition(" = ")
        goal = word if kind == "set" else _read_number(word)
        return kind, goal, _read_sum(rest)
    if kind == "ask":
        return kind, _read_sum(text), [], []
    if kind == "times":
        return kind, _read_sum(text), []
    return kind, _read_sum(text)


def _read_call(kind, text):
    ahead, goal, behind = text.partition(" = ")
    name = ahead if goal else None
    called, _, rest = (behind if goal else text).partition(" (")
    sums = [] if rest == ")" else [_read_sum(part) for part in rest[:-1].split(", ")]
    if kind == "call":
        return kind, name, _read_number(called), sums
    cell, _, functions = called.partition(" of ")
    return kind, name, _read_number(cell), [_read_number(part) for part in functions.split(" ")], sums


def _read_number(text):
    """The number that the text tells, None if it tells none that a source may have."""
    if not 1 <= len(text) <= MOST_SIGNS_IN_NUMBER or not all([sign in DIGITS for sign in text]):
        return None
    return int(text)


def _read_sum(text):
    """The sum that the text may tell, None if it is none; what else is returned is judged further."""
    # The parts of the brackets that are open, the outermost first.
    groups = [[]]
    for word in text.replace("(", "( ").replace(")", " )").split(" "):
        if word == "(":
            groups.append([])
        elif word != ")":
            groups[-1].append(word)
        elif len(groups) == 1 or len(groups[-1]) != 3:
            return None
        else:
            one, sign, other = groups.pop()
            groups[-1].append((_kind_of(sign), _read_operand(one), _read_operand(other)))
        if len(groups) > MOST_SUM_DEPTH + 1:
            return None
    return _read_operand(groups[0][0]) if len(groups) == 1 and len(groups[0]) == 1 else None


def _kind_of(sign):
    return KINDS_OF_SIGNS.get(sign) if isinstance(sign, str) else None


def _read_operand(word):
    """The sum that a word tells, or what has been read already."""
    if isinstance(word, tuple):
        return word
    if word.startswith("["):
        return "cell", _read_number(word[1:-1])
    number = _read_number(word)
    return word if number is None else number
