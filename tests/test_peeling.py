import random

from ringstays.bodies import Bodies, copy_at
from ringstays.errors import InvalidFunction, NoChange, NoRow, NotComplete, OriginalBody, TooMany
from ringstays.passes import run_passes
from ringstays.peeling import last_change, peel, read_row
from ringstays.programs import Program, complete
from tests import naive
from tests.cases import HUGE, NO_INTEGERS, Case

ASKED = [last_change, peel, read_row]
# 0 calls 1 alone, so neither 0 nor 1 is as in a complete program.
OTHER = Program([[1], [0]])


def fitting(passes):
    """Whether the passes make few paths on complete(3)."""
    try:
        return run_passes(complete(3), passes).size() <= 120
    except TooMany:
        return False


def made(seed, count, most):
    """Bodies of complete programs, those that pass lists make and such as are near them."""
    source = random.Random(seed)
    found = []
    while len(found) < count:
        program = complete(source.randint(1, 4))
        passes = naive.random_passes(source, source.randint(0, most), 4, source.random() < 0.3)
        if not fitting(passes):
            continue
        sets = [set() for _ in program.calls]
        for one in passes:
            naive.run_pass(program.calls, sets, one)
        for paths in sets:
            if sum(map(len, sets)) <= 150 and source.random() < 0.4:
                paths.add(source.choice(naive.open_paths(program.calls, sets.index(paths), paths)))
        if sum(map(len, sets)) <= 150:
            found.append((program, sets))
    return found


class Examples(Case):
    def test_examples(self):
        bodies = Bodies(complete(2), [[(1,), (1, 0)], [(0,), (0, 0)]])
        self.assertEqual([last_change(bodies, 0), last_change(bodies, 1), read_row(bodies, 1)],
                         [(1, ((0,),)), (0, ()), [(0, ()), (0, ())]])
        self.assertEqual(peel(bodies, 1).inlined, (((1,), (1, 0)), ((0,),)))
        self.raises(NoRow, {"function": 0}, read_row, Bodies(complete(2), [[(0,)], []]), 0)


class Errors(Case):
    def test_wrong_functions(self):
        for ask in ASKED:
            for bodies in (Bodies(complete(2)), Bodies(OTHER), Bodies(complete(2), [naive.chain(401), []])):
                for function in NO_INTEGERS + [-1, 2, HUGE]:
                    self.gives(InvalidFunction, function, ask, bodies, function)

    def test_not_complete(self):
        for calls, least in (([[1], [0]], 0), ([[0, 1], [1, 0]], 1), ([[0, 1], [0, 1, 1]], 1), ([[]], 0),
                             ([[0, 1, 2], [0, 1, 2], [0, 0, 1]], 2), ([[0], [0, 1]], 0)):
            bodies = Bodies(Program(calls))
            for ask in ASKED:
                for function in range(len(calls)):
                    self.raises(NotComplete, {"function": least}, ask, bodies, function)
        # Ahead of the number of paths, and of an original body.
        long = Bodies(Program([[0, 0], []]), [naive.chain(401), []])
        for ask in ASKED:
            self.raises(NotComplete, {"function": 0}, ask, long, 0)
            self.raises(NotComplete, {"function": 0}, ask, long, 1)

    def test_too_many(self):
        line = [(1,) * count for count in range(1, 402)]
        full, over = Bodies(complete(2), [line[:400], []]), Bodies(complete(2), [line, []])
        self.assertEqual(last_change(full, 0), (1, ()))
        self.assertEqual(peel(full, 0).inlined, (tuple(line[:399]), ()))
        self.assertEqual(read_row(full, 0), [(1, ())] * 400)
        for ask in ASKED:
            self.raises(TooMany, {"count": 401}, ask, over, 0)
            # A body without a last change, and that of 1 is counted alone.
            self.raises(TooMany, {"count": 402}, ask, Bodies(complete(2), [naive.chain(402), []]), 0)
        self.assertIsNone(last_change(over, 1))
        self.assertEqual(read_row(over, 1), [])
        both = Bodies(complete(2), [line[:300], [(0,) * count for count in range(1, 302)]])
        self.assertEqual([last_change(both, 0), last_change(both, 1)], [(1, ()), (0, ())])

    def test_no_change(self):
        one = Bodies(complete(1), [naive.chain(3)])
        for bodies in (one, Bodies(complete(2), [[(0,)], []]), Bodies(complete(3), [[(1,), (2,)], [], []])):
            self.raises(NoChange, {"function": 0}, last_change, bodies, 0)
            self.raises(NoChange, {"function": 0}, peel, bodies, 0)
            self.raises(NoRow, {"function": 0}, read_row, bodies, 0)
        self.raises(NoRow, {"function": 0}, read_row, Bodies(complete(1), [naive.chain(400)]), 0)

    def test_no_row_behind_some_changes(self):
        # Behind the last change, the only call of 1, the unrolled call of 0 is left.
        bodies = Bodies(complete(2), [[(0,), (0, 1), (1,)], []])
        self.assertEqual(last_change(bodies, 0), (1, ()))
        self.raises(NoRow, {"function": 0}, read_row, bodies, 0)
        self.raises(NoChange, {"function": 0}, peel, peel(bodies, 0), 0)

    def test_original(self):
        bodies = Bodies(complete(2), [[(1,)], []])
        self.assertIsNone(last_change(bodies, 1))
        self.raises(OriginalBody, {"function": 1}, peel, bodies, 1)
        self.assertEqual(read_row(bodies, 1), [])
        self.raises(OriginalBody, {"function": 0}, peel, Bodies(complete(1)), 0)


class Peeling(Case):
    def test_copies_that_call_the_callee(self):
        # The copy of 1 calls 1 itself, but the call is not inlined in it.
        bodies = run_passes(complete(3), [("first", 1, 0), ("now", 0, 1), ("first", 0, 1)])
        self.assertEqual(read_row(bodies, 0), [(1, ((0,),)), (1, ())])
        self.assertEqual(last_change(bodies, 0), (1, ()))
        # At (1,), too, something is inlined, but not the same.
        self.assertEqual(peel(bodies, 0), run_passes(complete(3), [("first", 1, 0), ("now", 0, 1)]))

    def test_a_copy_that_is_not_the_last_one_stays(self):
        bodies = Bodies(complete(3), [[(1,), (1, 2), (2,)], [], []])
        self.assertEqual(last_change(bodies, 0), (2, ()))
        self.assertEqual(peel(bodies, 0).inlined[0], ((1,),))
        bodies = Bodies(complete(3), [[(1,), (2,), (2, 1)], [], []])
        self.assertEqual([last_change(bodies, 0), peel(bodies, 0).inlined[0]], [(1, ()), ((2,),)])

    def test_by_the_words(self):
        kinds = set()
        for program, sets in made(81, 250, 5):
            bodies = naive.bodies_of(program, sets)
            for function, paths in enumerate(sets):
                found = naive.last_changes(program.calls, function, paths)
                self.assertLessEqual(len(found), 1)
                kinds.add((bool(paths), bool(found)))
                if not paths:
                    self.assertIsNone(last_change(bodies, function))
                    self.raises(OriginalBody, {"function": function}, peel, bodies, function)
                elif not found:
                    self.raises(NoChange, {"function": function}, last_change, bodies, function)
                    self.raises(NoChange, {"function": function}, peel, bodies, function)
                else:
                    self.assertEqual(last_change(bodies, function), found[0])
                    left = list(sets)
                    left[function] = naive.peeled(program.calls, function, paths, found[0])
                    self.assertEqual(peel(bodies, function), naive.bodies_of(program, left))
        self.assertEqual(kinds, {(False, False), (True, False), (True, True)})

    def test_rows_by_the_words(self):
        rows = 0
        for program, sets in made(82, 300, 7):
            bodies = naive.bodies_of(program, sets)
            for function, paths in enumerate(sets):
                row = []
                while paths and naive.last_changes(program.calls, function, paths):
                    row[:0] = naive.last_changes(program.calls, function, paths)
                    paths = naive.peeled(program.calls, function, paths, row[0])
                if paths:
                    self.raises(NoRow, {"function": function}, read_row, bodies, function)
                else:
                    self.assertEqual(read_row(bodies, function), row)
                    rows += len(row) > 1
        self.assertGreater(rows, 50)

    def test_rows_of_pass_lists(self):
        """Each pass that is not idle leaves its callee and what it puts in."""
        source = random.Random(83)
        checked = 0
        while checked < 120:
            passes = naive.random_passes(source, source.randint(1, 7), 3, False)
            if not fitting(passes):
                continue
            rows = [[] for _ in range(3)]
            for at, (mode, function, callee) in enumerate(passes):
                ahead = run_passes(complete(3), passes[:at])
                rows[function].append((callee, copy_at(ahead, callee, ()) if mode == "now" else ()))
            bodies = run_passes(complete(3), passes)
            self.assertEqual([read_row(bodies, function) for function in range(3)], rows)
            checked += 1

    def test_kinds_of_arguments(self):
        bodies = Bodies(complete(2), [[(1,)], [(0,)]])
        self.assertEqual(last_change(bodies=bodies, function=0), (1, ()))
        self.assertEqual(read_row(bodies=bodies, function=1), [(0, ())])
        self.assertEqual(peel(bodies=bodies, function=1).inlined, (((1,),), ()))
        self.assertIs(type(peel(bodies, 0)), Bodies)
        self.assertEqual(bodies, Bodies(complete(2), [[(1,)], [(0,)]]))
        read_row(bodies, 0).clear()
        self.assertEqual(read_row(bodies, 0), [(1, ())])
        for found in (last_change(bodies, 0), read_row(bodies, 0)[0]):
            self.assertEqual([type(found), type(found[1])], [tuple, tuple])
