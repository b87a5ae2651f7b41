import random

from ringstays.bodies import Bodies, copy_at, open_paths
from ringstays.errors import InvalidFunction, InvalidPath, NotInlined, NotOpen, NotOriginal, NotPresent
from ringstays.errors import SelfCall, TooMany
from ringstays.programs import Program, callee
from ringstays.steps import fold_call, foldable, inlinable, inline_call
from tests import naive
from tests.cases import HUGE, NO_INTEGERS, NO_TUPLES, Case


class Examples(Case):
    def test_examples(self):
        bodies = inline_call(Bodies(Program([[1], [0, 1]])), 1, (0,))
        self.assertEqual([bodies.inlined, inlinable(bodies), foldable(bodies)],
                         [((), ((0,),)), [(0, (0,))], [(1, (0,))]])
        more = inline_call(bodies, 0, (0,))
        self.assertEqual([more.inlined, foldable(more), fold_call(more, 0, (0,)) == bodies],
                         [(((0,), (0, 0)), ((0,),)), [(0, (0,))], True])
        self.raises(NotPresent, {"part": (0,)}, fold_call, more, 1, (0,))
        self.raises(SelfCall, {"function": 1}, inline_call, bodies, 1, (1,))


class Inlining(Case):
    def setUp(self):
        self.program = Program([[1, 0], [0, 2], []])
        self.bodies = Bodies(self.program, [[(0,)], [(0,), (0, 0)], []])

    def test_inlinable(self):
        self.assertEqual(inlinable(self.bodies),
                         [(0, (0, 1)), (1, (0, 0, 0)), (1, (0, 0, 1)), (1, (0, 1)), (1, (1,))])
        self.assertEqual(inlinable(bodies=Bodies(Program([[0], [1]]))), [])

    def test_inlinable_lists_paths_of_2001_calls(self):
        bodies = Bodies(Program([[1], [0]]), [naive.chain(2000), []])
        long = (0,) * 2001
        self.assertEqual(inlinable(bodies), [(0, long), (1, (0,))])
        self.gives(InvalidPath, long, inline_call, bodies, 0, long)

    def test_now(self):
        bodies = inline_call(Bodies(Program([[1, 1], [0]]), [[], [(0,), (0, 1)]]), 0, (1,))
        self.assertEqual(bodies.inlined, (((1,), (1, 0), (1, 0, 1)), ((0,), (0, 1))))
        more = inline_call(bodies=bodies, function=0, path=(1, 0, 1, 0), original=True)
        self.assertEqual(more.inlined[0], ((1,), (1, 0), (1, 0, 1), (1, 0, 1, 0)))
        self.assertIs(type(more), Bodies)
        self.assertEqual(more.program, bodies.program)

    def test_first(self):
        made = inline_call(self.bodies, 1, (0, 0, 0), original=True)
        self.assertEqual(made.inlined, (((0,),), ((0,), (0, 0), (0, 0, 0)), ()))
        made = inline_call(self.bodies, 0, (1,), original=True)
        self.assertEqual(made.inlined[0], ((0,), (1,)))
        self.assertEqual(inline_call(self.bodies, 0, (0, 1), original=False).inlined[0], ((0,), (0, 1)))

    def test_arguments_stay(self):
        inline_call(self.bodies, 1, (1,))
        fold_call(self.bodies, 0, (0,), original=True)
        self.assertEqual(self.bodies, Bodies(self.program, [[(0,)], [(0,), (0, 0)], []]))

    def test_new_lists(self):
        for asked in (inlinable, foldable):
            bodies = Bodies(self.program, [[(0,)], [], []])
            asked(bodies).clear()
            self.assertTrue(asked(bodies))

    def test_original_by_name_alone(self):
        with self.assertRaises(TypeError):
            inline_call(self.bodies, 1, (1,), True)
        with self.assertRaises(TypeError):
            fold_call(self.bodies, 1, (0,), True)

    def test_wrong_functions_and_paths(self):
        for change in (inline_call, fold_call):
            for original in (False, True):
                for function in NO_INTEGERS + [3, -1, HUGE]:
                    for path in ((1,), (9,), None):
                        self.gives(InvalidFunction, function, change, self.bodies, function, path, original=original)
                wrong = NO_TUPLES + [(2,), (-1,), (HUGE,), (0, 2), [1]] + [(value,) for value in NO_INTEGERS]
                for path in wrong:
                    self.gives(InvalidPath, path, change, self.bodies, 0, path, original=original)

    def test_not_open(self):
        for function, path in ((0, ()), (0, (0,)), (0, (1, 1)), (0, (1, 0)), (0, (0, 0, 1)), (1, (0, 0)), (2, ())):
            for original in (False, True):
                error = self.raises(NotOpen, {"path": path}, inline_call, self.bodies, function, path,
                                    original=original)
                self.assertIs(error.path, path)

    def test_self_calls(self):
        self.raises(SelfCall, {"function": 0}, inline_call, self.bodies, 0, (1,))
        self.raises(SelfCall, {"function": 0}, inline_call, self.bodies, 0, (0, 0))
        self.assertEqual(inline_call(self.bodies, 0, (0, 0), original=True).size(), 4)

    def test_limits(self):
        program = Program([[0, 1], [1]])
        bodies = Bodies(program, [naive.chain(1000), [(0,) * at for at in range(1, 500)]])
        self.assertEqual(inline_call(bodies, 0, (1,)).size(), 1999)
        full = inline_call(inline_call(bodies, 0, (1,)), 0, (0, 1), original=True)
        self.assertEqual(full.size(), 2000)
        self.raises(TooMany, {"count": 2001}, inline_call, full, 0, (0, 0, 1), original=True)
        self.raises(TooMany, {"count": 2500}, inline_call, full, 0, (0, 0, 1))
        self.raises(TooMany, {"count": 2001}, inline_call, full, 0, (0,) * 1001, original=True)

    def test_errors_in_order(self):
        bodies = Bodies(Program([[0, 1], []]), [naive.chain(2000), []])
        self.raises(NotOpen, {"path": (1, )}, inline_call, inline_call(Bodies(bodies.program), 0, (1,)), 0, (1,))
        self.raises(NotOpen, {"path": (0,)}, inline_call, bodies, 0, (0,))
        # An open self call of 2000 calls would be one path too many, too.
        less = Bodies(bodies.program, [naive.chain(1999) + [(1,)], []])
        self.raises(SelfCall, {"function": 0}, inline_call, less, 0, (0,) * 2000)
        self.raises(TooMany, {"count": 2001}, inline_call, less, 0, (0,) * 2000, original=True)

    def test_as_told(self):
        for program, _, bodies in naive.samples(31, 120, 5):
            calls, expected = program.calls, []
            for function in range(len(program)):
                for path in open_paths(bodies, function):
                    sets = naive.sets_of(bodies)
                    naive.inline(calls, sets, function, path, "first")
                    self.assertEqual(inline_call(bodies, function, path, original=True),
                                     naive.bodies_of(program, sets))
                    if callee(program, function, path) == function:
                        self.raises(SelfCall, {"function": function}, inline_call, bodies, function, path)
                        continue
                    expected.append((function, path))
                    sets = naive.sets_of(bodies)
                    naive.inline(calls, sets, function, path, "now")
                    made = inline_call(bodies, function, path)
                    self.assertEqual(made, naive.bodies_of(program, sets))
                    self.assertIn((function, path), foldable(made))
                    self.assertEqual(fold_call(made, function, path), bodies)
            self.assertEqual(inlinable(bodies), expected)
            self.assertEqual(expected, sorted(expected))


class Folding(Case):
    def setUp(self):
        self.program = Program([[1, 0], [0, 2], []])

    def bodies(self, *rows):
        return Bodies(self.program, list(rows))

    def test_foldable(self):
        bodies = self.bodies([(0,), (0, 0), (0, 0, 0), (0, 0, 0, 0), (1,)], [(0,), (1,)], [])
        self.assertEqual(foldable(bodies=bodies), [(1, (1,))])
        bodies = self.bodies([(0,), (0, 1), (1,)], [(1,)], [])
        self.assertEqual(foldable(bodies), [(0, (0,)), (0, (0, 1)), (1, (1,))])
        self.assertEqual(foldable(Bodies(self.program)), [])

    def test_now(self):
        bodies = self.bodies([(0,), (0, 1), (1,), (1, 0), (1, 0, 0)], [(1,)], [])
        self.assertEqual(fold_call(bodies, 0, (0,)).inlined, (((1,), (1, 0), (1, 0, 0)), ((1,),), ()))
        self.assertEqual(fold_call(bodies=bodies, function=0, path=(0, 1), original=False).inlined[0],
                         ((0,), (1,), (1, 0), (1, 0, 0)))
        self.assertIs(type(fold_call(bodies, 0, (0,))), Bodies)

    def test_original(self):
        bodies = self.bodies([(0,), (0, 1), (1,), (1, 0), (1, 0, 0)], [(1,)], [])
        self.assertEqual(fold_call(bodies, 0, (1, 0, 0), original=True).inlined[0], ((0,), (0, 1), (1,), (1, 0)))
        self.assertEqual(fold_call(bodies, 0, (0, 1), original=True).inlined[0], ((0,), (1,), (1, 0), (1, 0, 0)))
        self.assertEqual(fold_call(self.bodies([(1,)], [], []), 0, (1,), original=True), Bodies(self.program))

    def test_not_inlined(self):
        bodies = self.bodies([(0,)], [], [])
        for path in ((), (1,), (0, 0), (1, 1)):
            for original in (False, True):
                error = self.raises(NotInlined, {"path": path}, fold_call, bodies, 0, path, original=original)
                self.assertIs(error.path, path)

    def test_not_present(self):
        bodies = self.bodies([(0,), (0, 0), (0, 1)], [(1,)], [])
        self.raises(NotPresent, {"part": (0,)}, fold_call, bodies, 0, (0,))
        bodies = self.bodies([(0,), (0, 1)], [(0,), (0, 0), (1,)], [])
        self.raises(NotPresent, {"part": (0,)}, fold_call, bodies, 0, (0,))
        bodies = self.bodies([(0,), (0, 0), (0, 1)], [(0,), (0, 1)], [])
        self.raises(NotPresent, {"part": (0, 1)}, fold_call, bodies, 0, (0,))
        bodies = self.bodies([(0,), (0, 0)], [(0,), (0, 1), (1,)], [])
        self.raises(NotPresent, {"part": (0, 1)}, fold_call, bodies, 0, (0,))
        bodies = self.bodies([(0,), (0, 0), (0, 1)], [(0,)], [])
        self.raises(NotPresent, {"part": (1,)}, fold_call, bodies, 0, (0,))
        bodies = self.bodies([(0,), (0, 0)], [(0,), (1,)], [])
        self.raises(NotPresent, {"part": (1,)}, fold_call, bodies, 0, (0,))

    def test_self_calls_are_never_present(self):
        bodies = self.bodies([(1,), (1, 1), (1, 1, 1)], [], [])
        for path in bodies.inlined[0]:
            self.raises(NotPresent, {"part": (1,) * (4 - len(path))}, fold_call, bodies, 0, path)

    def test_not_original(self):
        bodies = self.bodies([(0,), (0, 0), (0, 0, 1), (0, 1), (1,), (1, 1)], [], [])
        self.raises(NotOriginal, {"part": (0,)}, fold_call, bodies, 0, (0,), original=True)
        self.raises(NotOriginal, {"part": (1,)}, fold_call, bodies, 0, (0, 0), original=True)
        self.raises(NotOriginal, {"part": (1,)}, fold_call, bodies, 0, (1,), original=True)

    def test_long_paths(self):
        bodies = Bodies(Program([[1], [0]]), [naive.chain(1999), [(0,)]])
        self.assertEqual(foldable(bodies), [])
        self.raises(NotPresent, {"part": (0,)}, fold_call, bodies, 0, (0,) * 1999)
        self.assertEqual(fold_call(bodies, 0, (0,) * 1999, original=True).inlined[0], tuple(naive.chain(1998)))
        self.raises(NotPresent, {"part": (0, 0)}, fold_call, bodies, 0, (0,) * 1998)
        too_long = (0,) * 2001
        self.gives(InvalidPath, too_long, fold_call, bodies, 0, too_long)
        pair = Bodies(Program([[1], [0]]), [naive.chain(1001), naive.chain(1000)[:999]])
        self.raises(NotPresent, {"part": (0,) * 1000}, fold_call, pair, 0, (0,))
        pair = Bodies(Program([[1], [0]]), [naive.chain(1000), naive.chain(999)])
        self.assertEqual(foldable(pair)[0], (0, (0,)))
        self.assertEqual(fold_call(pair, 0, (0,)).inlined, ((), tuple(naive.chain(999))))

    def test_as_told(self):
        source = random.Random(32)
        for program, _, bodies in naive.samples(32, 200, 7):
            sets, expected = naive.sets_of(bodies), []
            for function in range(len(program)):
                for path in sorted(sets[function]):
                    copy = naive.copy(sets[function], path)
                    present = sets[callee(program, function, path)]
                    less = list(sets)
                    less[function] = {other for other in sets[function] if other[:len(path)] != path}
                    behind = naive.bodies_of(program, less)
                    if copy == present:
                        expected.append((function, path))
                        self.assertEqual(fold_call(bodies, function, path), behind)
                    else:
                        self.raises(NotPresent, {"part": min(copy ^ present)}, fold_call, bodies, function, path)
                    if copy:
                        self.raises(NotOriginal, {"part": min(copy)}, fold_call, bodies, function, path,
                                    original=True)
                    else:
                        self.assertEqual(fold_call(bodies, function, path, original=True), behind)
                    self.assertEqual(copy_at(bodies, function, path), tuple(sorted(copy)))
            self.assertEqual(foldable(bodies), expected)

    def test_folding_ends_at_the_same_bodies(self):
        source = random.Random(5)
        for _, _, bodies in naive.samples(33, 60, 7):
            ends = []
            for _ in range(3):
                left = bodies
                while foldable(left):
                    smaller = fold_call(left, *source.choice(foldable(left)))
                    self.assertLess(smaller.size(), left.size())
                    left = smaller
                ends.append(left)
            self.assertEqual(ends[0], ends[1])
            self.assertEqual(ends[0], ends[2])
