import random

from ringstays.bodies import Bodies, copy_at, is_inlined, open_paths, self_calls
from ringstays.errors import InvalidFunction, InvalidInlined, InvalidPath, NotInlined, TooMany
from ringstays.programs import Program, callee, complete
from tests import naive
from tests.cases import HUGE, NO_INTEGERS, NO_LISTS, NO_TUPLES, Case


class Examples(Case):
    def test_examples(self):
        bodies = Bodies(Program([[1, 1], [0]]), [[(1, 0), (0,), (1,)], []])
        self.assertEqual(
            [bodies.inlined, bodies.size(), open_paths(bodies, 0), self_calls(bodies, 0)],
            [(((0,), (1,), (1, 0)), ()), 3, [(0, 0), (1, 0, 0), (1, 0, 1)], [(0, 0)]])
        self.assertEqual([copy_at(bodies, 0, (1,)), copy_at(bodies, 1, ())], [((0,),), ()])
        self.raises(NotInlined, {"path": (0, 0)}, copy_at, bodies, 0, (0, 0))


class Making(Case):
    def setUp(self):
        self.program = Program([[1, 1], [0]])

    def test_original(self):
        for bodies in (Bodies(self.program), Bodies(self.program, None), Bodies(self.program, inlined=[[], ()])):
            self.assertEqual(bodies.program, self.program)
            self.assertEqual(bodies.inlined, ((), ()))
            self.assertEqual(bodies.size(), 0)

    def test_any_order_lists_and_tuples(self):
        made = Bodies(program=self.program, inlined=([(0, 0, 1), (0,), (0, 0)], ((0, 1), (0,))))
        self.assertEqual(made.inlined, (((0,), (0, 0), (0, 0, 1)), ((0,), (0, 1))))
        self.assertEqual([type(made.inlined)] + [type(row) for row in made.inlined], [tuple] * 3)
        self.assertEqual(made.size(), 5)
        self.assertEqual(Bodies(self.program, made.inlined), made)
        self.assertEqual(Bodies(Program(((1, 1), (0,))), [list(reversed(row)) for row in made.inlined]), made)

    def test_arguments_stay_and_are_not_kept(self):
        inlined = [[(0, 0), (0,)], []]
        bodies = Bodies(self.program, inlined)
        self.assertEqual(inlined, [[(0, 0), (0,)], []])
        inlined[0].append((1,))
        inlined[1] = [(0,)]
        self.assertEqual(bodies.inlined, (((0,), (0, 0)), ()))

    def test_equality(self):
        one = Bodies(self.program, [[(0,)], []])
        self.assertEqual(one, Bodies(self.program, ([(0,)], ())))
        for other in (Bodies(self.program), Bodies(self.program, [[(1,)], []]), Bodies(self.program, [[], [(0,)]]),
                      Bodies(Program([[1, 0], [0]]), [[(0,)], []]), one.inlined, self.program, None):
            self.assertFalse(one == other)
            self.assertTrue(one != other)

    def test_wrong_inlined(self):
        wrong = [value for value in NO_LISTS if value is not None]
        wrong += [[], [[]], [[], [], []], [[(0, 0)], []], [[(0,), (0, 0, 0)], []], [[(0,), (0,)], []], [[()], []],
                  [[(0,), ()], []], [[(2,)], []], [[], [(1,)]], [[(-1,)], []], [[[0]], []], [[0], []], [(0,), []],
                  [[(HUGE,)], []], [[(0,), (0, 1)], []], [[(0,), [0, 0]], []], [[(1, 0), (0,)], []]]
        wrong += [[value, []] for value in NO_LISTS] + [[[], value] for value in NO_LISTS]
        wrong += [[[(0,), value], []] for value in NO_TUPLES]
        wrong += [[[(value,)], []] for value in NO_INTEGERS]
        wrong += [[[(0,), (1,), (value, 0)], []] for value in NO_INTEGERS]
        for given in wrong:
            self.gives(InvalidInlined, given, Bodies, self.program, given)

    def test_a_row_of_another_function_does_not_help(self):
        given = [[(0, 0)], [(0,)]]
        self.gives(InvalidInlined, given, Bodies, self.program, given)

    def test_limits(self):
        program = Program([[0], [1]])
        self.assertEqual(Bodies(program, [naive.chain(2000), []]).size(), 2000)
        self.assertEqual(Bodies(program, [naive.chain(1000), naive.chain(1000)]).size(), 2000)
        self.raises(TooMany, {"count": 2001}, Bodies, program, [naive.chain(1000), naive.chain(1001)])
        self.raises(TooMany, {"count": 4000}, Bodies, program, [naive.chain(2000), naive.chain(2000)])
        given = [naive.chain(2001), []]
        self.gives(InvalidInlined, given, Bodies, program, given)

    def test_wrong_inlined_comes_ahead_of_too_many(self):
        given = [naive.chain(2000), naive.chain(1) + [(0,)]]
        self.gives(InvalidInlined, given, Bodies, Program([[0], [1]]), given)


class Asking(Case):
    def setUp(self):
        self.bodies = Bodies(Program([[1, 1, 0], [0], []]), [[(0,), (0, 0), (0, 0, 2), (2,)], [], []])

    def test_is_inlined(self):
        for path in ((), (0,), (0, 0), (0, 0, 2), (2,)):
            self.assertIs(is_inlined(self.bodies, 0, path), True)
        for path in ((1,), (0, 0, 0), (0, 0, 2, 2), (2, 0), (1, 0, 0)):
            self.assertIs(is_inlined(bodies=self.bodies, function=0, path=path), False)
        self.assertIs(is_inlined(self.bodies, 1, (0,)), False)
        self.assertIs(is_inlined(self.bodies, 2, ()), True)

    def test_open_paths(self):
        self.assertEqual(
            open_paths(bodies=self.bodies, function=0),
            [(0, 0, 0), (0, 0, 1), (0, 0, 2, 0), (0, 0, 2, 1), (0, 0, 2, 2), (1,), (2, 0), (2, 1), (2, 2)])
        self.assertEqual(open_paths(self.bodies, 1), [(0,)])
        self.assertEqual(open_paths(self.bodies, 2), [])

    def test_self_calls(self):
        self.assertEqual(self_calls(bodies=self.bodies, function=0), [(0, 0, 2, 2), (2, 2)])
        self.assertEqual(self_calls(self.bodies, 1), [])
        self.assertEqual(self_calls(Bodies(Program([[0, 0]])), 0), [(0,), (1,)])

    def test_copy_at(self):
        self.assertEqual(copy_at(bodies=self.bodies, function=0, path=(0,)), ((0,), (0, 2)))
        self.assertEqual(copy_at(self.bodies, 0, (0, 0)), ((2,),))
        self.assertEqual(copy_at(self.bodies, 0, (2,)), ())
        self.assertEqual(copy_at(self.bodies, 0, ()), self.bodies.inlined[0])
        self.assertEqual(copy_at(self.bodies, 2, ()), ())

    def test_new_lists(self):
        for asked in (open_paths, self_calls):
            asked(self.bodies, 0).clear()
            self.assertTrue(asked(self.bodies, 0))

    def test_wrong_functions_come_first(self):
        for function in NO_INTEGERS + [3, -1, HUGE]:
            self.gives(InvalidFunction, function, open_paths, self.bodies, function)
            self.gives(InvalidFunction, function, self_calls, self.bodies, function)
            for path in ((), (9,), None):
                self.gives(InvalidFunction, function, is_inlined, self.bodies, function, path)
                self.gives(InvalidFunction, function, copy_at, self.bodies, function, path)

    def test_wrong_paths(self):
        wrong = NO_TUPLES + [(3,), (-1,), (0, 1), (HUGE,), [0]] + [(value,) for value in NO_INTEGERS]
        for path in wrong + [(2,) * 2001]:
            self.gives(InvalidPath, path, is_inlined, self.bodies, 0, path)
            self.gives(InvalidPath, path, copy_at, self.bodies, 0, path)

    def test_not_inlined(self):
        for path in ((1,), (0, 0, 0), (2, 2), (1, 0)):
            self.assertIs(self.raises(NotInlined, {"path": path}, copy_at, self.bodies, 0, path).path, path)

    def test_long_paths(self):
        program = Program([[0, 1], [0]])
        bodies = Bodies(program, [naive.chain(2000), []])
        long = (0,) * 2000
        self.assertIs(is_inlined(bodies, 0, long), True)
        self.assertEqual(copy_at(bodies, 0, long), ())
        self.assertEqual(copy_at(bodies, 0, long[:1998]), ((0,), (0, 0)))
        found = open_paths(bodies, 0)
        self.assertEqual([len(found), len(found[0]), len(found[1]), found[-1]], [2002, 2001, 2001, (1,)])
        self.assertEqual(found[:2], [long + (0,), long + (1,)])
        self.assertEqual(self_calls(bodies, 0), [long + (0,)])
        self.gives(InvalidPath, found[0], is_inlined, bodies, 0, found[0])
        self.gives(InvalidPath, found[0], copy_at, bodies, 0, found[0])

    def test_many_short_paths(self):
        program = complete(8)
        paths = [(one,) for one in range(8)] + [(one, other) for one in range(8) for other in range(8)]
        bodies = Bodies(program, [paths] + [[]] * 7)
        self.assertEqual(len(open_paths(bodies, 0)), 512)
        self.assertEqual(len(self_calls(bodies, 0)), 64)

    def test_as_told(self):
        source = random.Random(25)
        for program, _, bodies in naive.samples(25, 150):
            calls, sets = program.calls, naive.sets_of(bodies)
            for function in range(len(program)):
                found = naive.open_paths(calls, function, sets[function])
                self.assertEqual(open_paths(bodies, function), found)
                self.assertEqual(self_calls(bodies, function),
                                 [path for path in found if callee(program, function, path) == function])
                for path in [()] + sorted(sets[function]):
                    self.assertIs(is_inlined(bodies, function, path), True)
                    self.assertEqual(copy_at(bodies, function, path), tuple(sorted(naive.copy(sets[function], path))))
                for path in source.sample(found, min(4, len(found))):
                    self.assertIs(is_inlined(bodies, function, path), False)
