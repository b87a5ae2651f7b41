import random

from ringstays.bodies import Bodies
from ringstays.desk import Desk
from ringstays.errors import InvalidFunction, InvalidPosition
from ringstays.flat import flat
from ringstays.lines import read_source
from ringstays.machine import Run
from ringstays.opened import bracket_at, plain_frames
from ringstays.source import Source, program_of
from tests import naive_source
from tests.cases import HUGE, NO_INTEGERS, NO_TUPLES, Case
from tests.test_flat import samples

TEXT = ["function 0", "  call b = 1 (5)", "  choose 3 of 1 2 (b)", "end", "function 1 a", "  show a", "  call 2 (a)",
        "end",
        "function 2 a", "  times 2", "    ask a", "      show gx1y", "    else", "      give a", "    end", "  end",
        "end"]
SOURCE = read_source(TEXT)
FLAT = flat(SOURCE, Bodies(program_of(SOURCE), [[(0,), (0, 0), (1,)], [(0,)], []]))


def all_positions(rows, place=()):
    """The positions of all rows, by the words of point [174]."""
    found = []
    for at, row in enumerate(rows):
        found.append(place + (at,))
        if row[0] == "times":
            found += all_positions(row[2], place + (at,))
        if row[0] == "ask":
            found += all_positions(row[2], place + (at, 0)) + all_positions(row[3], place + (at, 1))
    return found


class Examples(Case):
    def test_examples(self):
        desk = Desk(read_source(["function 0", "  call b = 1 (5)", "end", "function 1 a", "  show a", "end"]))
        desk.inline(0, (0,))
        run = Run(desk.flat().source, 0, [])
        self.assertEqual([run.to_show(9), run.frames()[0][1], plain_frames(desk.flat(), run)],
                         [True, (3,), [(0, {}), (1, {"a": 5})]])
        self.assertEqual([bracket_at(desk.flat(), 0, (2,)), bracket_at(desk.flat(), 0, (4,))], [(0,), ()])


class Brackets(Case):
    def test_wrong_functions(self):
        for function in NO_INTEGERS + [-1, 3, HUGE]:
            self.gives(InvalidFunction, function, bracket_at, FLAT, function, (0,))
            self.gives(InvalidFunction, function, bracket_at, FLAT, function, None)

    def test_wrong_positions(self):
        count = len(FLAT.source.functions[0][1])
        right = all_positions(FLAT.source.functions[0][1])
        asks = [place for place in right if self.row_at(place)[0] == "ask"]
        wrong = NO_TUPLES + [(), (count + 1,), (-1,), (HUGE,), (0, 0), [0], (count, 0), (0,) * 2000, ((0,),), (0.5,)]
        wrong += [asks[0], asks[0] + (2,), asks[0] + (2, 0), asks[0] + (-1, 0), asks[0] + (0,), asks[0] + (1,)]
        wrong += [(value,) for value in NO_INTEGERS] + [(0, value) for value in NO_INTEGERS]
        wrong = [place for place in wrong if place not in right]
        for position in wrong:
            self.gives(InvalidPosition, position, bracket_at, FLAT, 0, position)
        # At the end of rows within others stands no row.
        for place in asks:
            for branch in (0, 1):
                inner = self.row_at(place)[2 + branch]
                position = place + (branch, len(inner))
                self.gives(InvalidPosition, position, bracket_at, FLAT, 0, position)
        self.assertEqual(bracket_at(FLAT, 0, (count,)), ())
        position = (True,)
        self.gives(InvalidPosition, position, bracket_at, FLAT, 0, position)

    def row_at(self, place):
        rows, row, place = FLAT.source.functions[0][1], None, list(place)
        while place:
            row = rows[place.pop(0)]
            if place:
                rows = row[2 + place.pop(0)] if row[0] == "ask" else row[2]
        return row

    def test_samples(self):
        found = set()
        for _, made, bodies in samples(182, 200):
            told = flat(made, bodies)
            for function, (_, rows) in enumerate(told.source.functions):
                right = naive_source.NaiveFlat(made, set(bodies.inlined[function]), function)
                places = all_positions(rows)
                self.assertEqual(set(places), set(right.numbers))
                for place in places:
                    path = bracket_at(told, function, place)
                    self.assertEqual(path, right.paths[right.numbers[place]])
                    found.add(len(path))
                self.assertEqual(bracket_at(told, function, (len(rows),)), ())
                # Each path that is inlined has a bracket of its own.
                self.assertEqual(sorted(set(right.paths)), [()] + list(bodies.inlined[function]))
        self.assertGreaterEqual(found, {0, 1, 2, 3})

    def test_which_rows_are_of_a_bracket(self):
        source = read_source(["function 0 a", "  call b = 1 (a)", "  choose 0 of 1 (a)", "end", "function 1 a",
                              "  show c", "end"])
        told = flat(source, Bodies(program_of(source), [[(0,), (1,)], []]))
        rows = told.source.functions[0][1]
        self.assertEqual([(row[0], bracket_at(told, 0, (at,))) for at, row in enumerate(rows)],
                         [("set", (0,))] * 4 + [("show", (0,)), ("set", ()), ("set", ()), ("ask", ())])
        self.assertEqual([bracket_at(told, 0, (7, 0, at)) for at in range(5)], [(1,)] * 5)
        self.assertEqual([bracket_at(told, 1, (at,)) for at in range(2)], [(), ()])


class Frames(Case):
    def test_frames_ahead_of_shows(self):
        """The frames of the plain run, those with names like written ones among them."""
        source = Source([(("ax1", "gx1y"), [("call", "mx1", 1, ["ax1", 3]), ("show", "mx1")]),
                         (("gx1y", "a"), [("set", "kx", 4), ("call", "ax1", 2, ["gx1y"]), ("give", "ax1")]),
                         (("gx",), [("set", "x1", 7), ("set", "ax2", 0), ("show", "gx"),
                                    ("give", ("add", "gx", "x1"))])])
        bodies = Bodies(program_of(source), [[(0,), (0, 0)], [(0,)], []])
        told = flat(source, bodies)
        plain, run = Run(source, 0, [1, 2]), Run(told.source, 0, [1, 2])
        self.assertEqual([plain.to_show(99), run.to_show(99)], [True, True])
        self.assertEqual(plain_frames(told, run), [(0, {"ax1": 1, "gx1y": 2}), (1, {"gx1y": 1, "a": 3, "kx": 4}),
                                                   (2, {"gx": 1, "x1": 7})])
        self.assertEqual(plain_frames(told, run), [(one, names) for one, _, names in plain.frames()])
        plain.step()
        run.step()
        self.assertEqual([plain.to_show(99), run.to_show(99)], [True, True])
        self.assertEqual(plain_frames(told, run), [(0, {"ax1": 1, "gx1y": 2, "mx1": 8})])
        run.walk(99)
        self.assertEqual([run.ended(), plain_frames(told, run)], [True, []])

    def test_at_every_step(self):
        """By the words of point [182], wherever the run is."""
        for source, made, bodies in samples(1820, 80):
            told = flat(made, bodies)
            function = source.randrange(len(made))
            run = Run(told.source, function, [1] * len(made.functions[function][0]))
            for _ in range(60):
                right = []
                for one, position, names in run.frames():
                    path = bracket_at(told, one, position)
                    paths = naive_source.NaiveFlat(made, set(bodies.inlined[one]), one).paths
                    for length in range(len(path) + 1):
                        end = f"x{paths.index(path[:length])}"
                        reached = one
                        for call in path[:length]:
                            reached = bodies.program.calls[reached][call]
                        right.append((reached, {name[:-len(end)]: worth for name, worth in names.items()
                                                if name[-len(end):] == end}))
                self.assertEqual(plain_frames(told, run), right)
                if run.too_deep() or not run.step():
                    break

    def test_kinds_of_arguments(self):
        run = Run(FLAT.source, 0, [])
        run.to_show(50)
        found = plain_frames(flat=FLAT, run=run)
        self.assertEqual(found, [(0, {}), (1, {"a": 5})])
        found[1][1].clear()
        found.clear()
        self.assertEqual(plain_frames(FLAT, run), [(0, {}), (1, {"a": 5})])
        self.assertEqual(bracket_at(flat=FLAT, function=0, position=(0,)), (0,))
        steps = random.Random(1).randint(1, 5)
        run.walk(steps)
        self.assertEqual(run.shown()[0], 5)
