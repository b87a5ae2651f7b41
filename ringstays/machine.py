"""Runs of source programs, step by step: points [173] and [174]."""

from ringstays.errors import InvalidCells, InvalidFunction, InvalidMost, InvalidWorths, TooDeep
from ringstays.sums import CELLS, are_worths, worth_of
from ringstays.values import is_within

MOST_FRAMES = 200
MOST_WALKED = 20000
MOST_ROUNDS = 3


class Level:
    """Rows of which one is next: the position of what they stand in, and how many rounds of a times are left."""

    def __init__(self, place, rows):
        self.place, self.rows, self.at, self.rounds = place, rows, 0, 0


class Frame:
    """A call that has not ended, with its names and the rows at hand, the outermost level first."""

    def __init__(self, function, rows, names):
        self.function, self.names = function, names
        self.levels = [Level((), rows)]

    def next_row(self):
        """The row that is next, or the call at which the frame waits, None at the end of all rows."""
        level = self.levels[-1]
        return level.rows[level.at] if level.at < len(level.rows) else None

    def position(self):
        """The position that leads to this row."""
        level = self.levels[-1]
        return level.place + (level.at,)

    def begin_rows(self, place, rows):
        """Go to the first of some rows within the row at hand."""
        self.levels.append(Level(place, rows))
        self._leave_ended()

    def go_on(self):
        """Go behind the row at hand."""
        level = self.levels[-1]
        level.at += 1
        self._leave_ended()

    def _leave_ended(self):
        # A level that is left ends a round of a times, which stays at hand while rounds are left.
        while len(self.levels) > 1 and self.next_row() is None:
            self.levels.pop()
            level = self.levels[-1]
            if level.rounds == 0:
                level.at += 1


class Run:
    """A run of a function of a source."""

    def __init__(self, source, function, worths, cells=(0, 0, 0, 0, 0, 0, 0, 0)):
        if not is_within(function, 0, len(source) - 1):
            raise InvalidFunction(function)
        if not are_worths(worths, len(source.functions[function][0])):
            raise InvalidWorths(worths)
        if not are_worths(cells, CELLS):
            raise InvalidCells(cells)
        self._source, self._cells, self._shown = source, list(cells), []
        self._done, self._given, self._stack = 0, None, []
        self._begin(function, worths)

    def step(self):
        """Do the next step; tell whether there was one."""
        if self.ended():
            return False
        if self.too_deep():
            raise TooDeep()
        self._done += 1
        row = self._stack[-1].next_row()
        if row is None:
            self._end(0)
        else:
            self._do(row)
        return True

    def walk(self, most):
        """Do so many steps at most; tell how many were done."""
        _check_most(most)
        done = 0
        while done < most and self._goes_on():
            self.step()
            done += 1
        return done

    def to_show(self, most):
        """Do so many steps at most, up to the next show; tell whether this is next."""
        _check_most(most)
        done = 0
        while done < most and self._goes_on() and not self._is_at_show():
            self.step()
            done += 1
        return self._is_at_show()

    def shown(self):
        """The worths shown so far."""
        return list(self._shown)

    def cells(self):
        """The worths of the cells."""
        return list(self._cells)

    def steps(self):
        """The number of steps done."""
        return self._done

    def ended(self):
        """Whether the first frame has ended."""
        return not self._stack

    def too_deep(self):
        """Whether the next step would make too many frames."""
        if len(self._stack) < MOST_FRAMES:
            return False
        row = self._stack[-1].next_row()
        return row is not None and row[0] in ("call", "choose")

    def worth(self):
        """What the first frame gave, None ahead of its end."""
        return self._given

    def frames(self):
        """The frames (function, position, names), the first one first."""
        found = []
        for frame in self._stack:
            told = {name: worth for name, worth in frame.names.items() if worth > 0}
            found.append((frame.function, frame.position(), told))
        return found

    def _goes_on(self):
        return not self.ended() and not self.too_deep()

    def _is_at_show(self):
        if self.ended():
            return False
        row = self._stack[-1].next_row()
        return row is not None and row[0] == "show"

    def _worth_of(self, given):
        return worth_of(given, self._stack[-1].names, self._cells)

    def _begin(self, function, worths):
        names, rows = self._source.functions[function]
        self._stack.append(Frame(function, rows, dict(zip(names, worths))))

    def _end(self, worth):
        """End the last frame, which gives this worth."""
        self._stack.pop()
        if self.ended():
            self._given = worth
            return
        caller = self._stack[-1]
        name = caller.next_row()[1]
        if name is not None:
            caller.names[name] = worth
        caller.go_on()

    def _do(self, row):
        """Do the row that is next."""
        kind, frame = row[0], self._stack[-1]
        if kind in ("call", "choose"):
            self._begin(self._callee(row), [self._worth_of(given) for given in row[-1]])
        elif kind == "give":
            self._end(self._worth_of(row[1]))
        elif kind == "ask":
            branch = 1 if self._worth_of(row[1]) == 0 else 0
            frame.begin_rows(frame.position() + (branch,), row[2 + branch])
        elif kind == "times":
            self._do_times(row)
        else:
            self._do_plain(row)
            frame.go_on()

    def _callee(self, row):
        if row[0] == "call":
            return row[2]
        functions = row[3]
        return functions[self._cells[row[2]] % len(functions)]

    def _do_times(self, row):
        """Take the worth of a times, or begin one of its rounds."""
        frame = self._stack[-1]
        level = frame.levels[-1]
        if level.rounds > 0:
            level.rounds -= 1
            frame.begin_rows(frame.position(), row[2])
            return
        level.rounds = self._worth_of(row[1]) % (MOST_ROUNDS + 1)
        if level.rounds == 0:
            frame.go_on()

    def _do_plain(self, row):
        """Do a row that only sets, stores or shows."""
        if row[0] == "set":
            names = self._stack[-1].names
            names[row[1]] = self._worth_of(row[2])
        elif row[0] == "store":
            self._cells[row[1]] = self._worth_of(row[2])
        else:
            self._shown.append(self._worth_of(row[1]))


def _check_most(most):
    if not is_within(most, 0, MOST_WALKED):
        raise InvalidMost(most)
