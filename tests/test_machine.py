import random

from ringstays.errors import InvalidCells, InvalidFunction, InvalidMost, InvalidWorths, TooDeep
from ringstays.machine import Run
from ringstays.source import Source
from tests import naive_source
from tests.cases import HUGE, NO_INTEGERS, NO_LISTS, Case
from tests.test_sums import WRONG_CELLS

ROWS = [("ask", "a", [("call", "b", 1, [])], []), ("times", 6, [("show", "b")])]
SOURCE = Source([(("a",), ROWS), ((), [("give", 7)])])
WRONG_MOST = NO_INTEGERS + [-1, 20001, HUGE]


def told(run):
    """All that a run tells of itself; to_show(0) does no step."""
    return (run.frames(), run.to_show(0), run.shown(), run.cells(), run.too_deep(), run.ended(), run.worth())


def loop(*rows):
    """A source of one function without names."""
    return Source([((), list(rows))])


def positions(run, most=100):
    """The positions of the last frame ahead of each step, and the number of frames."""
    found = []
    while not run.ended() and len(found) < most:
        found.append((len(run.frames()), run.frames()[-1][1]))
        run.step()
    return found


class Examples(Case):
    def test_examples(self):
        run = Run(SOURCE, 0, [1])
        self.assertEqual([run.walk(2), run.frames()], [2, [(0, (0, 0, 0), {"a": 1}), (1, (0,), {})]])
        self.assertEqual([run.to_show(9), run.frames(), run.walk(9), run.shown(), run.worth(), run.steps()],
                         [True, [(0, (1, 0), {"a": 1, "b": 7})], 4, [7, 7], 0, 9])


class Errors(Case):
    def test_wrong_functions(self):
        for function in NO_INTEGERS + [-1, 2, HUGE]:
            self.gives(InvalidFunction, function, Run, SOURCE, function, None)
            self.gives(InvalidFunction, function, Run, SOURCE, function, None, None)

    def test_wrong_worths(self):
        for worths in NO_LISTS + [[], [1, 2], [-1], [65536], [HUGE], [[1]],
                                  [(1,)]] + [[value] for value in NO_INTEGERS]:
            self.gives(InvalidWorths, worths, Run, SOURCE, 0, worths)
            self.gives(InvalidWorths, worths, Run, SOURCE, 0, worths, None)
        for worths in ([0], [65535], (0,)):
            self.assertEqual(Run(SOURCE, 0, worths).steps(), 0)
        wrong = [0]
        self.gives(InvalidWorths, wrong, Run, SOURCE, 1, wrong)

    def test_wrong_cells(self):
        for cells in WRONG_CELLS:
            self.gives(InvalidCells, cells, Run, SOURCE, 0, [1], cells)

    def test_wrong_most(self):
        for most in WRONG_MOST:
            for run in (Run(SOURCE, 0, [1]), self.at_end()):
                self.gives(InvalidMost, most, run.walk, most)
                self.gives(InvalidMost, most, run.to_show, most)
        run = Run(SOURCE, 0, [1])
        self.assertEqual([run.walk(0), run.to_show(0), run.steps(), run.walk(20000), run.to_show(20000)],
                         [0, False, 0, 9, False])

    def at_end(self):
        run = Run(SOURCE, 0, [1])
        run.walk(100)
        return run


class Runs(Case):
    def check(self, source, function, worths, cells, most=200):
        """A run step by step against the second writing; returns what it ends at."""
        found = naive_source.states(source, function, worths, cells, most)
        run = Run(source, function, worths, cells)
        for at, state in enumerate(found):
            self.assertEqual(told(run), state)
            self.assertEqual(run.steps(), at)
            _, _, _, _, deep, ended, _ = state
            if deep:
                with self.assertRaises(TooDeep):
                    run.step()
                self.assertEqual(told(run), state)
            elif ended:
                self.assertIs(run.step(), False)
                self.assertEqual(told(run), state)
            else:
                self.assertIs(run.step(), True)
        return "deep" if found[-1][4] else "ended" if found[-1][5] else "long"

    def sample(self, source):
        made = naive_source.Sampler(source).made()
        function = source.randrange(len(made))
        worths = [source.choice((0, 1, 2, 3, 65535)) for _ in made.functions[function][0]]
        return made, function, worths, [source.choice((0, 1, 2, 5, 65535)) for _ in range(8)]

    def test_samples(self):
        source = random.Random(173)
        ends = [self.check(*self.sample(source)) for _ in range(500)]
        self.assertGreater(min(map(ends.count, ("ended", "long"))), 50)

    def test_portions(self):
        source, kinds = random.Random(174), set()
        for _ in range(400):
            sample = self.sample(source)
            found = naive_source.states(*sample, 150)
            last, run, at = len(found) - 1, Run(*sample), 0
            while at < last:
                # Not further than what is known, where the run goes on behind it.
                most = min(source.choice((0, 1, 2, 3, 7, 20)), last - at if not any(found[last][4:6]) else 20)
                if source.random() < 0.5:
                    end = min(at + most, last)
                    self.assertEqual(run.walk(most), end - at)
                else:
                    shows = [place for place in range(at, len(found)) if found[place][1]]
                    end = min([at + most, last] + shows[:1])
                    self.assertIs(run.to_show(most), found[end][1])
                    kinds.add((end == at, found[end][1], most == end - at))
                at = end
                self.assertEqual([told(run), run.steps()], [found[at], at])
            if any(found[last][4:6]):
                self.assertEqual([run.walk(20000), run.to_show(20000), run.steps()], [0, False, last])
        self.assertGreaterEqual(kinds, {(True, True, False), (False, True, False), (False, False, True)})

    def test_behind_the_end(self):
        run = Run(SOURCE, 1, [])
        self.assertEqual([run.ended(), run.worth(), run.step(), run.ended(), run.worth()], [False, None, True, True, 7])
        for _ in range(3):
            self.assertEqual([run.step(), run.walk(5), run.to_show(5), run.steps(), run.frames(), run.too_deep()],
                             [False, 0, False, 1, [], False])
        # A worth 0 is given, too.
        run = Run(loop(), 0, [])
        self.assertEqual([run.frames(), run.worth(), run.walk(9), run.worth(), run.ended()],
                         [[(0, (0,), {})], None, 1, 0, True])

    def test_two_runs_by_turns(self):
        one, other = Run(SOURCE, 0, [1]), Run(SOURCE, 0, [0])
        alone = Run(SOURCE, 0, [1])
        for _ in range(12):
            self.assertEqual([one.step(), other.step()][0], alone.step())
            self.assertEqual(told(one), told(alone))
        self.assertEqual([one.shown(), other.shown(), other.steps()], [[7, 7], [0, 0], 7])
        cells = [1, 2, 3, 4, 5, 6, 7, 8]
        first = Run(loop(("store", 0, 9)), 0, [], cells)
        second = Run(loop(("show", ("cell", 0))), 0, [], cells)
        first.walk(5)
        second.walk(5)
        self.assertEqual([first.cells()[0], second.shown(), cells], [9, [1], [1, 2, 3, 4, 5, 6, 7, 8]])

    def test_times_of_0_to_7(self):
        for count in range(8):
            run = Run(loop(("times", count, [("show", count)]), ("times", count, [])), 0, [])
            rounds = count % 4
            self.assertEqual(run.walk(100), 1 + 2 * rounds + 1 + rounds + 1)
            self.assertEqual(run.shown(), [count] * rounds)
        run = Run(loop(("times", 2, [("show", 1), ("times", 1, [])]), ("show", 2)), 0, [])
        self.assertEqual(positions(run), [(1, place) for place in ((0,), (0,), (0, 0), (0, 1), (0, 1), (0,), (0, 0),
                                                                   (0, 1),
                                                                   (0, 1), (1,), (2,))])

    def test_the_worth_of_a_times_is_taken_once(self):
        rows = [("set", "a", 3), ("times", "a", [("set", "a", 0), ("show", "a")]), ("show", 9)]
        run = Run(loop(*rows), 0, [])
        run.walk(100)
        self.assertEqual(run.shown(), [0, 0, 0, 9])

    def test_positions_in_asks(self):
        for worth, place in ((1, (0, 0, 0)), (65535, (0, 0, 0)), (0, (0, 1, 0))):
            run = Run(loop(("ask", worth, [("show", 1)], [("show", 2)]), ("show", 3)), 0, [])
            self.assertEqual(positions(run), [(1, (0,)), (1, place), (1, (1,)), (1, (2,))])
            self.assertEqual(run.shown(), [1 if worth else 2, 3])
        empty = Run(loop(("ask", 1, [], [("show", 2)])), 0, [])
        self.assertEqual([positions(empty), empty.shown()], [[(1, (0,)), (1, (1,))], []])
        inner = Run(loop(("ask", 0, [], [("ask", 1, [("ask", 0, [], [])], [])])), 0, [])
        self.assertEqual(positions(inner), [(1, (0,)), (1, (0, 1, 0)), (1, (0, 1, 0, 0, 0)), (1, (1,))])

    def test_give_within_times_and_asks(self):
        for inner in ([("give", "a")], [("times", 2, [("ask", 1, [("give", "a"), ("show", 8)], []), ("show", 8)])]):
            source = Source([((), [("call", "b", 1, [5]), ("show", "b"), ("call", None, 1, [0])]),
                             (("a",), [("times", 3, [("ask", "a", inner, [])]), ("show", 6)])])
            run = Run(source, 0, [])
            run.walk(100)
            self.assertEqual([run.shown(), run.worth()], [[5, 6], 0])

    def test_calls_and_names(self):
        source = Source([(("a", "b"), [("call", "a", 1, ["b", ("cell", 0)]), ("show", "a"), ("show", "c"),
                                       ("show", "b")]),
                         (("b", "c"), [("set", "a", 9), ("store", 0, ("add", "b", "c")), ("give", ("sub", "b", "c"))])])
        run = Run(source, 0, [4, 65535], [7] + [0] * 7)
        self.assertEqual(run.walk(2), 2)
        self.assertEqual(run.frames(), [(0, (0,), {"a": 4, "b": 65535}), (1, (1,), {"a": 9, "b": 65535, "c": 7})])
        run.walk(100)
        self.assertEqual([run.shown(), run.cells(), run.worth()], [[65528, 0, 65535], [6] + [0] * 7, 0])

    def test_choose(self):
        functions = [((), [("give", at)]) for at in range(3)]
        for count in (1, 2, 3):
            rows = [("choose", "a", 3, list(range(1, count + 1)), []), ("show", "a")]
            for cell in (0, 1, 2, 3, 4, 65535):
                run = Run(Source([((), rows)] + functions), 0, [], [0, 0, 0, cell, 0, 0, 0, 0])
                run.walk(100)
                self.assertEqual(run.shown(), [cell % count])

    def test_200_frames_and_a_201st(self):
        source = Source([(("a",), [("set", "b", "a"), ("call", "b", 0, [("add", "a", 1)]), ("show", "b"),
                                   ("give", 5)])])
        run = Run(source, 0, [1])
        self.assertEqual([run.walk(20000), len(run.frames()), run.too_deep(), run.ended()], [399, 200, True, False])
        kept = told(run)
        for _ in range(3):
            self.assertEqual(vars(self.raises(TooDeep, {}, run.step)), {})
            self.assertEqual([told(run), run.steps(), run.walk(9), run.to_show(9)], [kept, 399, 0, False])
        self.assertEqual(run.frames()[199], (0, (1,), {"a": 200, "b": 200}))
        # Just 200 frames are no error.
        rows = [("ask", ("less", "a", 199), [("call", "b", 0, [("add", "a", 1)])], []), ("give", ("add", "a", "b"))]
        run = Run(Source([(("a",), rows)]), 0, [0])
        most = 0
        while run.step():
            most = max(most, len(run.frames()))
        self.assertEqual([most, run.worth(), run.steps()], [200, 199 * 200 // 2, 199 * 3 + 2])
        chosen = Run(loop(("choose", None, 0, [0], [])), 0, [])
        self.assertEqual([chosen.walk(300), chosen.too_deep()], [199, True])
        self.raises(TooDeep, {}, chosen.step)

    def test_deep_rows(self):
        rows = [("give", 3)]
        for at in range(39):
            rows = [("times", 1, rows)] if at % 2 else [("ask", 0, [], rows)]
        source = Source([((), [("call", "a", 1, []), ("show", "a")]), ((), rows)])
        run = Run(source, 0, [])
        self.assertEqual([run.to_show(20000), run.shown(), run.walk(2), run.shown()], [True, [], 2, [3]])
        self.check(source, 0, [], [0] * 8)

    def test_long_runs(self):
        rows = [("store", 0, ("add", ("cell", 0), 1))]
        for _ in range(5):
            rows = [("times", 3, rows)]
        run = Run(loop(*rows), 0, [])
        steps = run.walk(20000)
        self.assertEqual([run.cells()[0], run.ended(), steps], [243, True, run.steps()])

    def test_kinds_of_arguments(self):
        run = Run(source=SOURCE, function=0, worths=(1,), cells=(0, 0, 0, 0, 0, 0, 0, 65535))
        self.assertEqual([run.walk(most=2), run.to_show(most=9), run.cells()], [2, True, [0] * 7 + [65535]])
        for ask in (run.shown, run.cells, run.frames):
            kept = list(ask())
            ask().clear()
            self.assertEqual(ask(), kept)
        run.frames()[0][2].clear()
        self.assertEqual(run.frames(), [(0, (1, 0), {"a": 1, "b": 7})])
        worths, cells = [1], [0] * 8
        run = Run(Source([(("a",), [("set", "a", 5), ("store", 0, 5), ("show", "a")])]), 0, worths, cells)
        worths[0] = cells[0] = 9
        self.assertEqual([run.frames(), run.cells()[0]], [[(0, (0,), {"a": 1})], 0])
        run.walk(9)
        self.assertEqual([worths, cells[0], run.shown()], [[9], 9, [5]])
        self.assertEqual(Run(SOURCE, 1, []).cells(), [0] * 8)
