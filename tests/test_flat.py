import random

from ringstays.bodies import Bodies, open_paths
from ringstays.errors import InlineError, LongName, OtherProgram, TooMany, TooManyCalls, TooNested
from ringstays.flat import Flat, flat
from ringstays.lines import lines, read_source
from ringstays.machine import Run
from ringstays.opened import plain_frames
from ringstays.programs import Program, names
from ringstays.source import Source, program_of
from ringstays.texts import write_bodies
from tests import naive, naive_source
from tests.cases import Case
from tests.test_source import nested

SHOW = ("show", 1)


def in_tuples(value):
    return tuple(map(in_tuples, value)) if isinstance(value, (list, tuple)) else value


def chain(count):
    """A function that calls itself, with so many calls inlined."""
    source = Source([((), [("call", None, 0, [])])])
    return source, Bodies(program_of(source), [naive.chain(count)])


def samples(seed, count, length=7, most=40, calls=5):
    """Sources with bodies that steps of both modes make."""
    source = random.Random(seed)
    for _ in range(count):
        made = naive_source.Sampler(source, calls).made()
        program = program_of(made)
        sets = naive.random_log(source, program, source.randint(0, length), most)[1]
        yield source, made, naive.bodies_of(program, sets)


class Examples(Case):
    def test_examples(self):
        source = read_source(["function 0", "  call b = 1 (5)", "end", "function 1 a", "  times 2", "    show a",
                              "    give 8", "  end", "end"])
        told = flat(source, Bodies(program_of(source), [[(0,)], []]))
        self.assertEqual(lines(told.source)[1:14],
                         ["  set ax1 = 5", "  set gx1y = 0", "  set mx1y = 0", "  times 2", "    ask mx1y", "    else",
                          "      show ax1", "      set gx1y = 8", "      set mx1y = 1", "    end", "  end",
                          "  set bx0 = gx1y", "end"])


class Errors(Case):
    def test_what_program_of_raises_comes_first(self):
        source = Source([((), [SHOW]), ((), [("call", None, 0, [])] * 9)])
        self.raises(TooManyCalls, {"function": 1}, flat, source, Bodies(Program([[]])))

    def test_other_programs(self):
        source = Source([((), [("call", None, 0, [])])])
        for program in (Program([[]]), Program([[0, 0]]), Program([[0], []]), Program([[1], [0]])):
            bodies = Bodies(program, [naive.chain(41)] if program.calls == ((0, 0),) else None)
            self.assertIs(self.raises(OtherProgram, {"other": bodies}, flat, source, bodies).other, bodies)

    def test_paths_of_40_and_41_calls(self):
        self.assertEqual(len(flat(*chain(40)).source.functions[0][1]), 81)
        self.raises(TooNested, {"function": 0}, flat, *chain(41))
        self.raises(TooNested, {"function": 0}, flat, *chain(2000))
        source = Source([((), [SHOW] * 400), ((), [("call", None, 2, [])]), ((), [("call", None, 1, []), SHOW])])
        program = program_of(source)
        self.raises(TooNested, {"function": 2}, flat, source, Bodies(program, [[], naive.chain(40), naive.chain(41)]))
        self.raises(TooNested, {"function": 1}, flat, source, Bodies(program, [[], naive.chain(41), naive.chain(41)]))

    def test_400_and_401_rows(self):
        def source(count, more):
            return Source([((), [SHOW] * count + [("call", None, 1, [])] + [SHOW] * more), ((), [SHOW] * 10)])
        for count, more, right in ((388, 0, True), (388, 1, False), (0, 388, True), (0, 389, False), (399, 0, False),
                                   (398, 0, False), (200, 188, True), (200, 189, False), (398, 1, False)):
            one = source(count, more)
            bodies = Bodies(program_of(one), [[(0,)], []])
            if right:
                self.assertEqual(len(flat(one, bodies).source.functions[0][1]), 400)
            else:
                self.raises(TooMany, {"count": 401}, flat, one, bodies)
        self.assertEqual(flat(source(399, 0), Bodies(program_of(source(399, 0)))).source.functions[0][1][0], SHOW)

    def test_40_and_41_deep(self):
        for outer, inner, right in ((38, 1, True), (39, 0, True), (39, 1, False), (20, 19, True), (20, 20, False),
                                    (0, 39, True)):
            for kind in ("times", "ask", "first"):
                one = Source([((), nested(outer, [("call", None, 1, [])], kind)), ((), nested(inner, [SHOW], kind))])
                bodies = Bodies(program_of(one), [[(0,)], []])
                if right:
                    rows = flat(one, bodies).source.functions[0][1]
                    self.assertEqual(max(depth for _, depth in naive_source.in_text_order(rows)), 40)
                else:
                    self.raises(TooNested, {"function": 0}, flat, one, bodies)
        # The asks that chooses and gives make count, too.
        for outer, right in ((38, True), (39, False)):
            one = Source([((), nested(outer, [("choose", None, 0, [1], [])])), ((), [])])
            bodies = Bodies(program_of(one), [[(0,)], []])
            if right:
                self.assertEqual(len(flat(one, bodies).source), 2)
            else:
                self.raises(TooNested, {"function": 0}, flat, one, bodies)
        given = [("give", 1), SHOW]
        for rows, right in ((given, True), (nested(1, given), False), (nested(1, [SHOW]), True)):
            one = Source([((), nested(38, [("call", None, 1, [])])), ((), rows)])
            bodies = Bodies(program_of(one), [[(0,)], []])
            if right:
                self.assertEqual(len(flat(one, bodies).source), 2)
            else:
                self.raises(TooNested, {"function": 0}, flat, one, bodies)

    def test_the_first_row_that_is_wrong(self):
        deep, wide = nested(39, [("call", None, 2, [])]), [("call", None, 1, [])]
        leaves = [((), [SHOW] * 400), ((), nested(1, [SHOW]))]
        for rows, error in ((deep + wide, "TooNested"), (wide + deep, "TooMany"),
                            ([SHOW] * 300 + deep + wide, "TooNested")):
            source = Source([((), rows)] + leaves)
            program = program_of(source)
            bodies = Bodies(program, [[(0,), (1,)], [], []])
            self.assertEqual(naive_source.flat_error(source, bodies)[0], error)
            if error == "TooMany":
                self.raises(TooMany, {"count": 401}, flat, source, bodies)
            else:
                self.raises(TooNested, {"function": 0}, flat, source, bodies)
        # A 401st row that is too deep as well is the 401st.
        for count in (357, 358):
            source = Source([((), [SHOW] * count + nested(39, [("call", None, 1, [])])), ((), nested(1, [SHOW]))])
            bodies = Bodies(program_of(source), [[(0,)], []])
            if count == 358:
                self.raises(TooMany, {"count": 401}, flat, source, bodies)
            else:
                self.raises(TooNested, {"function": 0}, flat, source, bodies)
        many = [("call", None, 2, [])] * 2
        source = Source([((), [SHOW]), ((), many), ((), [SHOW] * 300)])
        self.raises(TooMany, {"count": 401}, flat, source, Bodies(program_of(source), [[], [(0,), (1,)], []]))

    def test_long_names(self):
        def one(name, *rows):
            return Source([((name,) if name else (), list(rows))])
        for length, right in ((38, True), (39, False), (40, False)):
            name = "a" * length
            for source in (one(name), one("", ("set", name, 1)), one("", ("show", ("add", 1, name))),
                           one("", ("call", name, 0, [])), one("", ("choose", name, 0, [0], [])),
                           one("", ("times", 1, [("ask", 1, [], [("give", name)])]))):
                bodies = Bodies(program_of(source))
                if right:
                    self.assertEqual(len(flat(source, bodies).source), 1)
                else:
                    self.raises(LongName, {"name": name + "x0"}, flat, source, bodies)
        # Brackets with numbers of two signs make names longer.
        for length, right in ((37, True), (38, False)):
            name = "a" * length
            source = Source([((), [("call", None, 1, [])] * 5), ((), [("call", None, 2, [])]),
                             ((), [("set", name, 1)])])
            paths = [(call,) for call in range(5)] + [(call, 0) for call in range(5)]
            bodies = Bodies(program_of(source), [paths, [], []])
            if right:
                self.assertIn(name + "x10", [row[1] for row in flat(source, bodies).source.functions[0][1]])
            else:
                self.raises(LongName, {"name": name + "x10"}, flat, source, bodies)

    def test_the_first_long_name(self):
        names_told = ["abcd"[at] * 40 for at in range(4)]
        a, b, c, d = names_told
        for functions, name in (([((a, b), [("set", c, 1)])], a), ([(("x", b), [("set", c, 1)])], b),
                                ([((), [SHOW, ("set", c, d), ("set", a, 1)])], c),
                                ([((), [("set", "x", d), ("set", a, 1)])], d),
                                ([((), [("ask", ("add", b, a), [("set", c, 1)], [])])], b),
                                ([((), [("ask", 1, [("set", c, 1)], [("set", d, 1)]), ("set", a, 1)])], c),
                                ([((), [("ask", 1, [], [("set", d, 1)]), ("set", a, 1)])], d),
                                ([(("x",), [("call", c, 0, [a])])], c), ([(("x",), [("call", None, 0, [a])])], a),
                                ([(("x", "y"), [("choose", d, 0, [0], [c, a])])], d),
                                ([(("x", "y"), [("choose", None, 0, [0], [c, a])])], c),
                                ([((), [SHOW]), ((), [("show", b)]), ((a,), [])], b)):
            source = Source(functions)
            self.raises(LongName, {"name": name + "x0"}, flat, source, Bodies(program_of(source)))
        # Too many rows come ahead of long names of the same function, and behind those of an earlier one.
        wide = [("call", None, 2, [])] * 2
        for first, error in (([("set", a, 1)], LongName), ([SHOW], TooMany)):
            source = Source([((), first), ((), [("set", a, 1)] + wide), ((), [SHOW] * 300)])
            values = {"name": a + "x0"} if error is LongName else {"count": 401}
            self.raises(error, values, flat, source, Bodies(program_of(source), [[], [(0,), (1,)], []]))

    def test_samples(self):
        told = []
        for _, source, bodies in samples(181, 200, 25, 300, 8):
            right = naive_source.flat_error(source, bodies)
            try:
                flat(source, bodies)
                found = None
            except InlineError as error:
                found = type(error).__name__, *vars(error).values()
            self.assertEqual(found, right)
            told.append(right and right[0])
        self.assertGreater(told.count("TooMany"), 5)


class FlatPrograms(Case):
    def check(self, source, bodies):
        """The text against the second writing."""
        found = flat(source, bodies)
        self.assertEqual([type(found), type(found.source), len(found.source)], [Flat, Source, len(source)])
        for function, (told, rows) in enumerate(found.source.functions):
            naive_flat = naive_source.NaiveFlat(source, set(bodies.inlined[function]), function)
            self.assertEqual(rows, in_tuples(naive_flat.rows))
            self.assertEqual(told, tuple(name + "x0" for name in source.functions[function][0]))
        self.check_calls(found, bodies)
        return found

    def check_calls(self, found, bodies):
        """The calls of the flat program are the open ones of the bodies."""
        try:
            program = program_of(found.source)
        except TooManyCalls:
            return
        for function in range(len(program)):
            reached = tuple(names(bodies.program, function, path)[-1] for path in open_paths(bodies, function))
            self.assertEqual(program.calls[function], reached)

    def check_runs(self, source, found, function, worths, cells, shows=40):
        """Point [183]: a run of the plain source and one of the flat program."""
        plain, other = Run(source, function, worths, cells), Run(found.source, function, worths, cells)
        for _ in range(shows):
            at_show = plain.to_show(2000)
            if not at_show and not plain.ended():
                return "deep" if plain.too_deep() else "long"
            self.assertIs(other.to_show(20000), at_show)
            self.assertEqual(other.shown(), plain.shown())
            self.assertEqual(plain_frames(found, other), [(one, told) for one, _, told in plain.frames()])
            if not at_show:
                self.assertEqual([other.ended(), other.worth(), other.cells()], [True, plain.worth(), plain.cells()])
                return "ended"
            plain.step()
            other.step()
        return "shown"

    def test_samples(self):
        told = []
        for source, made, bodies in samples(183, 700):
            found = self.check(made, bodies)
            function = source.randrange(len(made))
            worths = [source.choice((0, 1, 2, 65535)) for _ in made.functions[function][0]]
            cells = [source.choice((0, 1, 2, 3, 65535)) for _ in range(8)]
            told.append(self.check_runs(made, found, function, worths, cells))
        self.assertGreater(min(map(told.count, ("ended", "deep", "shown"))), 20)

    def inlined(self, texts, text):
        """The lines of function 0 of a flat program, by the lines of a source and the text of bodies."""
        source = read_source(texts)
        program = program_of(source)
        bodies = Bodies(program, [[tuple(path) for path in paths] for paths in text])
        found = self.check(source, bodies)
        self.assertTrue(write_bodies(bodies))
        rows = lines(found.source)
        return rows[1:rows.index("end")]

    def test_brackets_in_brackets(self):
        texts = ["function 0 a", "  call a = 1 (a, (a + b))", "  show b", "end",
                 "function 1 b a", "  set c = (b + gx1y)", "  call d = 2 (c)", "  call 2 (a)", "end",
                 "function 2 a", "  store 0 = (a + mx1)", "end"]
        self.assertEqual(self.inlined(texts, [[(0,), (0, 0), (0, 1)], [], []]), [
            "  set bx1 = ax0", "  set ax1 = (ax0 + bx0)", "  set cx1 = 0", "  set dx1 = 0", "  set gx1yx1 = 0",
            "  set gx1y = 0", "  set mx1y = 0", "  set cx1 = (bx1 + gx1yx1)",
            "  set ax2 = cx1", "  set mx1x2 = 0", "  set gx2y = 0", "  set mx2y = 0", "  store 0 = (ax2 + mx1x2)",
            "  set dx1 = gx2y",
            "  set ax3 = ax1", "  set mx1x3 = 0", "  set gx3y = 0", "  set mx3y = 0", "  store 0 = (ax3 + mx1x3)",
            "  set ax0 = gx1y", "  show bx0"])

    def test_gives_of_number_0_stay(self):
        texts = ["function 0", "  give 1", "  ask 1", "    give 2", "    show 1", "  else", "  end", "  times 2",
                 "    give 3",
                 "  end", "  show 2", "  call 0 ()", "end"]
        self.assertEqual(self.inlined(texts, [[]]), texts[1:-1])

    def test_gives_ahead_of_further_rows_and_at_the_end(self):
        def told(*rows):
            texts = ["function 0", "  call 1 ()", "end", "function 1", *rows, "end"]
            return self.inlined(texts, [[(0,)], []])[2:]
        given = ["set gx1y = 1", "set mx1y = 1"]
        self.assertEqual(told("  give 1"), ["  " + line for line in given])
        self.assertEqual(told("  show 0", "  give 1", "  show 2"),
                         ["  show 0", "  " + given[0], "  " + given[1], "  ask mx1y", "  else", "    show 2", "  end"])
        self.assertEqual(told("  give 1", "  give 1", "  show 2"),
                         ["  " + given[0], "  " + given[1], "  ask mx1y", "  else", "    " + given[0],
                          "    " + given[1],
                          "    ask mx1y", "    else", "      show 2", "    end", "  end"])
        self.assertEqual(told("  ask 5", "    give 1", "  else", "    show 3", "  end", "  show 2"),
                         ["  ask 5", "    " + given[0], "    " + given[1], "  else", "    show 3", "  end",
                          "  ask mx1y",
                          "  else", "    show 2", "  end"])
        self.assertEqual(told("  times 3", "    give 1", "    show 4", "  end"),
                         ["  times 3", "    ask mx1y", "    else", "      " + given[0], "      " + given[1],
                          "      ask mx1y",
                          "      else", "        show 4", "      end", "    end", "  end"])
        self.assertEqual(told("  times 3", "    times 2", "      give 1", "    end", "  end", "  show 2"),
                         ["  times 3", "    ask mx1y", "    else", "      times 2", "        ask mx1y", "        else",
                          "          " + given[0], "          " + given[1], "        end", "      end", "    end",
                          "  end",
                          "  ask mx1y", "  else", "    show 2", "  end"])
        self.assertEqual(told("  times 3", "    show 4", "  end", "  show 2"),
                         ["  times 3", "    show 4", "  end", "  show 2"])

    def test_gives_of_other_brackets_do_not_count(self):
        texts = ["function 0", "  call 1 ()", "end", "function 1", "  call 2 ()", "  show 2", "end",
                 "function 2", "  give 1", "end"]
        self.assertEqual(self.inlined(texts, [[(0,), (0, 0)], [], []]),
                         ["  set gx1y = 0", "  set mx1y = 0", "  set gx2y = 0", "  set mx2y = 0", "  set gx2y = 1",
                          "  set mx2y = 1", "  show 2"])

    def test_chooses(self):
        for count in (1, 2, 3):
            functions = " ".join(map(str, range(1, count + 1)))
            texts = ["function 0 a", f"  choose b = 3 of {functions} (a)", "end"]
            for function in (1, 2, 3):
                texts += [f"function {function} a", f"  give {function}", "end"]
            for inlined in range(2 ** count):
                paths = [(call,) for call in range(count) if inlined >> call & 1]
                found = self.inlined(texts, [paths, [], [], []])
                if not paths:
                    self.assertEqual(found, [f"  choose bx0 = 3 of {functions} (ax0)"])
                    continue
                self.assertEqual(found[0], f"  set kx1y = ([3] rest {count})")
                self.assertEqual([line for line in found if line.startswith("  ask")],
                                 [f"  ask ((1 - (kx1y < {at})) * (1 - ({at} < kx1y)))" for at in range(count)])
                self.assertEqual([line for line in found if "call" in line],
                                 [f"    call bx0 = {at + 1} (ax0)" for at in range(count) if (at,) not in paths])
                self.check_choose(texts, paths)

    def check_choose(self, texts, paths):
        source = read_source(texts)
        found = flat(source, Bodies(program_of(source), [paths, [], [], []]))
        for cell in (0, 1, 2, 3, 65535):
            self.assertEqual(self.check_runs(source, found, 0, [7], [0, 0, 0, cell, 0, 0, 0, 0]), "ended")

    def test_chooses_behind_brackets(self):
        texts = ["function 0", "  call 1 ()", "  choose 0 of 1 2 ()", "  choose 0 of 1 2 ()", "end", "function 1",
                 "end",
                 "function 2", "  choose 0 of 1 ()", "end"]
        found = self.inlined(texts, [[(0,), (2,), (2, 0), (3,), (4,), (4, 0)], [], []])
        self.assertEqual([line.strip() for line in found if "kx" in line and "set" in line],
                         ["set kx2y = ([0] rest 2)", "set kx3y = ([0] rest 1)", "set kx4y = ([0] rest 2)",
                          "set kx6y = ([0] rest 1)"])

    def test_original_bodies(self):
        for _, made, _ in samples(1810, 60):
            found = self.check(made, Bodies(program_of(made)))
            self.assertEqual([line.replace("x0", "") for line in lines(found.source)],
                             [line.replace("x0", "") for line in lines(made)])

    def test_recursion_and_too_deep_runs(self):
        rows = [("show", "a"), ("call", "b", 0, [("add", "a", 1)]), ("show", "b"), ("give", "a")]
        source = Source([(("a",), rows)])
        found = self.check(source, Bodies(program_of(source), [naive.chain(6)]))
        self.assertEqual(self.check_runs(source, found, 0, [0], [0] * 8, 500), "deep")
        other = Run(found.source, 0, [0])
        other.walk(20000)
        self.assertEqual([len(other.frames()), len(other.shown())], [200, 1400])

    def test_kinds_of_arguments(self):
        source, bodies = chain(3)
        found = flat(source=source, bodies=bodies)
        self.assertTrue(found.source == flat(source, bodies).source)
        self.assertTrue(source == chain(3)[0] and bodies == chain(3)[1])
