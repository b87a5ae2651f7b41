"""Second writings for source programs: random ones, runs by generators, lines, and flat programs."""

import re

from ringstays.errors import BadSource
from ringstays.source import Source

SIGNS = {"add": "+", "sub": "-", "mul": "*", "less": "<", "rest": "rest"}
NAMES = ["a", "b", "ax1", "gx1y", "rest", "mx1"]


def random_sum(source, depth=2):
    kind = source.random()
    if depth and kind < 0.4:
        return source.choice(list(SIGNS)), random_sum(source, depth - 1), random_sum(source, depth - 1)
    if kind < 0.7:
        return source.choice(NAMES)
    return ("cell", source.randrange(8)) if kind < 0.8 else source.choice((0, 1, 2, 3, 5, 65535))


class Sampler:
    """A random source of which no function has more than so many calls."""

    def __init__(self, source, calls=4, counts=None, deep=3):
        self.source, self.deep = source, deep
        self.counts = counts or [source.randint(0, 2) for _ in range(source.randint(1, 4))]
        self.calls = calls

    def made(self):
        functions = []
        for count in self.counts:
            self.left = self.calls
            functions.append((tuple(self.source.sample(NAMES, count)), self.rows(1)))
        return Source(functions)

    def rows(self, depth):
        most = 4 if depth == 1 else 3
        return [self.row(depth) for _ in range(self.source.randint(0 if depth > 1 else 1, most))]

    def row(self, depth):
        source = self.source
        kind = source.choice(["set", "store", "show", "show", "give", "ask", "times", "call", "call", "choose"])
        if kind in ("ask", "times") and depth >= self.deep:
            kind = "show"
        if kind == "ask":
            return kind, random_sum(source), self.rows(depth + 1), self.rows(depth + 1)
        if kind == "times":
            return kind, random_sum(source), self.rows(depth + 1)
        if kind == "choose":
            return self.choose()
        if kind == "call" and self.left:
            self.left -= 1
            function = source.randrange(len(self.counts))
            return kind, self.goal(), function, [random_sum(source, 1) for _ in range(self.counts[function])]
        if kind == "set":
            return kind, source.choice(NAMES), random_sum(source)
        if kind == "store":
            return kind, source.randrange(8), random_sum(source)
        return ("give" if kind == "give" else "show"), random_sum(source)

    def goal(self):
        return self.source.choice(NAMES + [None])

    def choose(self):
        count = self.source.choice(self.counts)
        fit = [function for function, told in enumerate(self.counts) if told == count]
        functions = sorted(self.source.sample(fit, self.source.randint(1, min(3, len(fit)))))
        if len(functions) > self.left:
            return "show", random_sum(self.source)
        self.left -= len(functions)
        sums = [random_sum(self.source, 1) for _ in range(count)]
        return "choose", self.goal(), self.source.randrange(8), functions, sums


def worth(given, names, cells):
    if isinstance(given, int):
        return given
    if isinstance(given, str):
        return names.get(given, 0)
    if given[0] == "cell":
        return cells[given[1]]
    one, other = worth(given[1], names, cells), worth(given[2], names, cells)
    return {"add": (one + other) % 65536, "sub": (one - other) % 65536, "mul": one * other % 65536,
            "less": int(one < other), "rest": one % other if other else 0}[given[0]]


class NaiveRun:
    """A run as a generator that stops ahead of each step and yields the row that is next, None at the end of rows."""

    def __init__(self, source, function, worths, cells=(0,) * 8):
        self.source, self.cells, self.shown, self.given = source, list(cells), [], None
        self.stack = []
        self.going = self.first(function, worths)

    def first(self, function, worths):
        self.given = yield from self.call(function, worths)

    def call(self, function, worths):
        names, rows = self.source.functions[function]
        frame = [function, (0,), dict(zip(names, worths))]
        self.stack.append(frame)
        given = yield from self.rows(frame, rows, ())
        if given is None:
            frame[1] = (len(rows),)
            yield None
            given = 0
        self.stack.pop()
        return given

    def rows(self, frame, rows, place):
        for at, row in enumerate(rows):
            given = yield from self.row(frame, row, place + (at,))
            if given is not None:
                return given
        return None

    def row(self, frame, row, place):
        frame[1] = place
        yield row
        kind, names = row[0], frame[2]
        if kind == "set":
            names[row[1]] = worth(row[2], names, self.cells)
        elif kind == "store":
            self.cells[row[1]] = worth(row[2], names, self.cells)
        elif kind == "show":
            self.shown.append(worth(row[1], names, self.cells))
        elif kind == "give":
            return worth(row[1], names, self.cells)
        elif kind == "ask":
            branch = 0 if worth(row[1], names, self.cells) else 1
            return (yield from self.rows(frame, row[2 + branch], place + (branch,)))
        elif kind == "times":
            for _ in range(worth(row[1], names, self.cells) % 4):
                frame[1] = place
                yield row
                given = yield from self.rows(frame, row[2], place)
                if given is not None:
                    return given
        else:
            function = row[2] if kind == "call" else row[3][self.cells[row[2]] % len(row[3])]
            given = yield from self.call(function, [worth(one, names, self.cells) for one in row[-1]])
            if row[1] is not None:
                names[row[1]] = given
        return None

    def frames(self):
        return [(function, place, {name: told for name, told in names.items() if told})
                for function, place, names in self.stack]


def states(source, function, worths, cells, most):
    """What a run is ahead of each step, up to so many steps or the step that would make a 201st frame.

    Each is a tuple (frames, whether a show is next, worths shown, cells, whether it is too deep, whether it has
    ended, what it gave).
    """
    run = NaiveRun(source, function, worths, cells)
    found = []
    for row in run.going:
        deep = row is not None and row[0] in ("call", "choose") and len(run.stack) == 200
        show = row is not None and row[0] == "show"
        found.append((run.frames(), show, list(run.shown), list(run.cells), deep, False, None))
        if deep or len(found) > most:
            return found
    return found + [([], False, run.shown, run.cells, False, True, run.given)]


def sum_text(given):
    if isinstance(given, tuple):
        if given[0] == "cell":
            return "[%d]" % given[1]
        return "(%s %s %s)" % (sum_text(given[1]), SIGNS[given[0]], sum_text(given[2]))
    return str(given)


def row_lines(row, depth):
    space, kind = "  " * depth, row[0]
    goal = "%s = " % row[1] if kind in ("set", "store", "call", "choose") and row[1] is not None else ""
    if kind in ("set", "store"):
        return [space + kind + " " + goal + sum_text(row[2])]
    if kind in ("call", "choose"):
        called = str(row[2]) + (" of " + " ".join(map(str, row[3])) if kind == "choose" else "")
        return [space + "%s %s%s (%s)" % (kind, goal, called, ", ".join(map(sum_text, row[-1])))]
    found = [space + kind + " " + sum_text(row[1])]
    for at, rows in enumerate(row[2:]):
        found += [space + "else"] if at else []
        found += [line for one in rows for line in row_lines(one, depth + 1)]
    return found + ([space + "end"] if len(row) > 2 else [])


def lines(source):
    found = []
    for function, (names, rows) in enumerate(source.functions):
        found += [" ".join(["function", str(function), *names])]
        found += [line for row in rows for line in row_lines(row, 1)] + ["end"]
    return found


WORD = re.compile(r"\(|\)|\[|\]|[a-z][a-z0-9]*|[0-9]{1,5}|[-+*<]")


def sum_of(text):
    """A sum of which this may be the text; any mistake is seen when it is written again."""
    words = WORD.findall(text)

    def take():
        word = words.pop(0)
        if word == "(":
            one = take()
            kind = {sign: kind for kind, sign in SIGNS.items()}[words.pop(0)]
            other = take()
            words.pop(0)
            return kind, one, other
        if word == "[":
            cell = int(words.pop(0))
            words.pop(0)
            return "cell", cell
        return int(word) if word[0].isdigit() else word
    return take()


ROW = re.compile(r"(set|store|show|give|ask|times|call|choose) (?:([a-z0-9]+) = )?(.*)", re.ASCII)


def row_of(text):
    kind, goal, rest = ROW.fullmatch(text).groups()
    if kind in ("call", "choose"):
        called, inner = rest.split(" (", 1)
        sums = [sum_of(part) for part in inner[:-1].split(", ")] if inner != ")" else []
        if kind == "call":
            return kind, goal, int(called), sums
        cell, functions = called.split(" of ")
        return kind, goal, int(cell), list(map(int, functions.split(" "))), sums
    if kind in ("set", "store"):
        return kind, int(goal) if kind == "store" else goal, sum_of(rest)
    return (kind, sum_of(rest)) + ([], [])[:{"ask": 2, "times": 1}.get(kind, 0)]


def source_of(texts):
    """The source that some lines seem to tell: whether they are its lines is seen when it is written again."""
    functions, lists = [], []
    for line in texts:
        word = line.strip()
        if word.startswith("function "):
            functions.append((tuple(word.split(" ")[2:]), []))
            lists = [[functions[-1][1]]]
        elif word == "end":
            lists.pop()
        elif word == "else":
            lists[-1].pop(0)
        else:
            row = row_of(word)
            lists[-1][0].append(row)
            if row[2:] and row[0] in ("ask", "times"):
                lists.append(list(row[2:]))
    return Source(functions)


def ended(texts):
    """The lines with all that has begun brought to its end, and with all functions that are called."""
    depths, counts, seen = [], {}, 0
    for line in texts:
        word = line.strip()
        kind = word.split(" ")[0]
        if kind == "function":
            seen += 1
            depths = ["end"]
        elif kind in ("ask", "times"):
            depths.append("else" if kind == "ask" else "end")
        elif kind == "else":
            depths[-1] = "end"
        elif kind == "end":
            depths.pop()
        elif kind in ("call", "choose"):
            row = row_of(word)
            for function in [row[2]] if kind == "call" else row[3]:
                counts[function] = len(row[-1])
    found = list(texts)
    while depths:
        space = "  " * (len(depths) - 1)
        found += [space + "else", space + "end"] if depths.pop() == "else" else [space + "end"]
    for function in range(seen, max(counts, default=-1) + 1):
        found += [" ".join(["function", str(function)] + ["n%d" % at for at in range(counts.get(function, 0))]), "end"]
    return found if found else ["function 0", "end"]


def may_begin(texts):
    """Whether the lines of some source begin with these."""
    if not all(isinstance(line, str) for line in texts):
        return False
    try:
        whole = ended(texts)
        return lines(source_of(whole)) == whole
    except (BadSource, IndexError, KeyError, ValueError, AttributeError, TypeError):
        return False


def is_whole(texts):
    return may_begin(texts) and ended(texts) == list(texts)


def first_bad(texts):
    """The index that BadLine has, None if these are the lines of a source."""
    for at in range(len(texts)):
        if not may_begin(texts[:at + 1]):
            return at
    return None if is_whole(texts) else len(texts)


def gives(row):
    return row[0] == "give" or row[0] in ("ask", "times") and any(gives(one) for rows in row[2:] for one in rows)


def sum_names(given):
    if isinstance(given, str):
        return {given}
    return sum_names(given[1]) | sum_names(given[2]) if isinstance(given, tuple) and given[0] != "cell" else set()


def standing(rows):
    """All names that stand anywhere in some rows."""
    found = set()
    for row in rows:
        kind = row[0]
        found |= {row[1]} - {None} if kind in ("set", "call", "choose") else set()
        sums = row[-1] if kind in ("call", "choose") else [row[2 if kind in ("set", "store") else 1]]
        found |= set().union(*map(sum_names, sums))
        if kind in ("ask", "times"):
            found |= set().union(*map(standing, row[2:]))
    return found


class Number:
    """A number that a bracket, or a choose, gets when the text has come to it."""

    def __init__(self, path=None):
        self.path, self.told = path, None


class NaiveFlat:
    """The rows of one function with brackets, by the words of point [181].

    They are a tree first, in which names are tuples of parts with the numbers still to come. Then it is
    gone through in the order of the text: `rows`, `numbers` of the rows by their positions, and `paths`.
    """

    def __init__(self, source, inlined, function):
        self.functions, self.inlined = source.functions, inlined
        self.top = Number(())
        self.top.told = 0
        self.numbers, self.paths = {}, [()]
        self.rows = self.text_of(self.tree(self.functions[function][1], self.top, iter(range(100))), ())

    def name(self, name, bracket):
        return None if name is None else ("name", name, "x", bracket, "")

    def made(self, kind, number):
        return "name", kind, "", number, "y"

    def renamed(self, given, bracket):
        if isinstance(given, str):
            return self.name(given, bracket)
        if isinstance(given, tuple) and given[0] != "cell":
            return given[0], self.renamed(given[1], bracket), self.renamed(given[2], bracket)
        return given

    def tree(self, rows, bracket, calls):
        found = []
        for at, row in enumerate(rows):
            found += [(bracket, one) if one[0] != "in" else one[1:] for one in self.nodes(row, bracket, calls)]
            if bracket is not self.top and gives(row) and rows[at + 1:]:
                rest = self.tree(rows[at + 1:], bracket, calls)
                return found + [(bracket, ("ask", self.made("mx", bracket), [], rest))]
        return found

    def nodes(self, row, bracket, calls):
        """What stands for a row: rows with the number of the bracket, or ("in", another bracket, row)."""
        kind, inside = row[0], bracket is not self.top
        if kind == "give" and inside:
            return [("set", self.made("gx", bracket), self.renamed(row[1], bracket)),
                    ("set", self.made("mx", bracket), 1)]
        if kind in ("show", "give"):
            return [(kind, self.renamed(row[1], bracket))]
        if kind in ("set", "store"):
            goal = self.name(row[1], bracket) if kind == "set" else row[1]
            return [(kind, goal, self.renamed(row[2], bracket))]
        if kind in ("ask", "times"):
            lists = [self.tree(rows, bracket, calls) for rows in row[2:]]
            if kind == "times" and inside and gives(row):
                lists = [[(bracket, ("ask", self.made("mx", bracket), [], lists[0]))]]
            return [(kind, self.renamed(row[1], bracket), *lists)]
        if kind == "call":
            return self.called(row[1:], bracket, next(calls))
        return self.choose(row, bracket, [next(calls) for _ in row[3]])

    def choose(self, row, bracket, calls):
        _, name, cell, functions, sums = row
        if not any(bracket.path + (call,) in self.inlined for call in calls):
            told = [self.renamed(one, bracket) for one in sums]
            return [("choose", self.name(name, bracket), cell, functions, told)]
        chosen = self.made("kx", Number())
        found = [("set", chosen, ("rest", ("cell", cell), len(functions)))]
        for at, (function, call) in enumerate(zip(functions, calls)):
            given = ("mul", ("sub", 1, ("less", chosen, at)), ("sub", 1, ("less", at, chosen)))
            nodes = [(bracket, one) if one[0] != "in" else one[1:]
                     for one in self.called((name, function, sums), bracket, call)]
            found.append(("ask", given, nodes, []))
        return found

    def called(self, told, bracket, call):
        name, function, sums = told
        path = bracket.path + (call,)
        given = [self.renamed(one, bracket) for one in sums]
        if path not in self.inlined:
            return [("call", self.name(name, bracket), function, given)]
        inner = Number(path)
        names, rows = self.functions[function]
        found = [("set", self.name(one, inner), worth) for one, worth in zip(names, given)]
        found += [("set", self.name(one, inner), 0) for one in sorted(standing(rows) - set(names))]
        found += [("set", self.made("gx", inner), 0), ("set", self.made("mx", inner), 0)]
        found = [("in", inner, row) for row in found]
        found += [("in", *node) for node in self.tree(rows, inner, iter(range(100)))]
        return found + ([("set", self.name(name, bracket), self.made("gx", inner))] if name is not None else [])

    def text_of(self, nodes, place):
        found = []
        for bracket, row in nodes:
            if bracket.told is None:
                bracket.told = len(self.paths)
                self.paths.append(bracket.path)
            position = place + (len(found),)
            self.numbers[position] = bracket.told
            parts = 2 if row[0] in ("ask", "times") else len(row)
            told = [self.text(part) for part in row[:parts]]
            for at, inner in enumerate(row[parts:]):
                told.append(self.text_of(inner, position + ((at,) if row[0] == "ask" else ())))
            found.append(tuple(told))
        return found

    def text(self, part):
        if isinstance(part, list):
            return [self.text(one) for one in part]
        if isinstance(part, tuple) and part and part[0] == "name":
            _, name, ahead, number, behind = part
            if number.told is None:
                # The number of the next bracket to begin.
                number.told = len(self.paths)
            return f"{name}{ahead}{number.told}{behind}"
        if isinstance(part, tuple) and part and part[0] in SIGNS:
            return part[0], self.text(part[1]), self.text(part[2])
        return part


def in_text_order(rows, depth=1):
    """All rows with their depths."""
    for row in rows:
        yield row, depth
        if row[0] in ("ask", "times"):
            for inner in row[2:]:
                yield from in_text_order(inner, depth + 1)


def ordered_names(row):
    """The names of a row: its own one, then those of its sums."""
    def in_sum(given):
        if isinstance(given, str):
            return [given]
        return in_sum(given[1]) + in_sum(given[2]) if isinstance(given, tuple) and given[0] != "cell" else []
    kind = row[0]
    sums = row[-1] if kind in ("call", "choose") else [row[2 if kind in ("set", "store") else 1]]
    own = [row[1]] if kind in ("set", "call", "choose") and row[1] is not None else []
    return own + [name for given in sums for name in in_sum(given)]


def flat_error(source, bodies):
    """The first error that point [181] names behind OtherProgram, as a tuple of a name and a value, None for none."""
    for function, row in enumerate(bodies.inlined):
        if any(len(path) > 40 for path in row):
            return "TooNested", function
        flat = NaiveFlat(source, set(row), function)
        for at, (_, depth) in enumerate(in_text_order(flat.rows)):
            if at == 400:
                return "TooMany", 401
            if depth > 40:
                return "TooNested", function
        names = [name + "x0" for name in source.functions[function][0]]
        names += [name for row, _ in in_text_order(flat.rows) for name in ordered_names(row)]
        for name in names:
            if len(name) > 40:
                return "LongName", name
    return None
