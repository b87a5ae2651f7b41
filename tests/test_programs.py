import random
from itertools import permutations

from ringstays.errors import InvalidCalls, InvalidCount, InvalidFunction, InvalidNames, InvalidOrder
from ringstays.errors import InvalidPath, NoCall
from ringstays.programs import Program, callee, complete, is_path, names, path_of, ranked
from tests import naive
from tests.cases import HUGE, NO_INTEGERS, NO_LISTS, NO_TUPLES, Case


class Examples(Case):
    def test_examples(self):
        program = Program([[1, 1], [0, 2], []])
        self.assertEqual(
            [len(program), callee(program, 0, (1, 0)), names(program, 0, (1, 1)), path_of(program, 0, (1, 2))],
            [3, 0, (1, 2), (0, 1)])
        self.assertEqual([complete(2).calls, ranked([2, 0, 1]).calls], [((0, 1), (0, 1)), ((1,), (), (0, 1))])
        self.raises(NoCall, {"at": 1}, path_of, program, 0, (1, 1))


class Programs(Case):
    def test_calls(self):
        calls = [[1, 1], (0,), []]
        for given in (calls, tuple(calls)):
            program = Program(given)
            self.assertEqual(program.calls, ((1, 1), (0,), ()))
            self.assertIs(type(program.calls), tuple)
            self.assertEqual([type(row) for row in program.calls], [tuple] * 3)
            self.assertEqual(len(program), 3)
        self.assertEqual(Program(calls=calls), Program(calls))
        self.assertEqual(calls, [[1, 1], (0,), []])

    def test_no_list_is_kept(self):
        calls = [[1], [0]]
        program = Program(calls)
        calls[0].append(0)
        calls.append([])
        self.assertEqual(program.calls, ((1,), (0,)))

    def test_equality(self):
        self.assertEqual(Program([[1], [0]]), Program(((1,), (0,))))
        for other in (Program([[1], []]), Program([[1], [0], []]), ((1,), (0,)), [[1], [0]], None, 0):
            self.assertFalse(Program([[1], [0]]) == other)
            self.assertTrue(Program([[1], [0]]) != other)

    def test_edges(self):
        self.assertEqual(Program([[]]).calls, ((),))
        self.assertEqual(Program([[0] * 8]).calls, ((0,) * 8,))
        self.assertEqual(len(Program([[7]] * 8)), 8)

    def test_wrong_calls(self):
        wrong = NO_LISTS + [[], (), [[]] * 9, [[0] * 9], [[1]], [[-1]], [[HUGE]], [0], [[], None], [[], "0"], ["0"],
                            [{}], [[], {0: 0}]]
        wrong += [[[value]] for value in NO_INTEGERS]
        for given in wrong:
            self.gives(InvalidCalls, given, Program, given)
            self.gives(InvalidCalls, given, Program, calls=given)


class Paths(Case):
    def setUp(self):
        self.program = Program([[1, 1], [0, 2], [], [3]])

    def test_callee_and_names(self):
        self.assertEqual([callee(self.program, function, ()) for function in range(4)], [0, 1, 2, 3])
        self.assertEqual([names(self.program, function, ()) for function in range(4)], [()] * 4)
        self.assertEqual(callee(program=self.program, function=0, path=(1, 1)), 2)
        self.assertEqual(names(program=self.program, function=1, path=(0, 1, 0)), (0, 1, 0))
        self.assertEqual(callee(self.program, 3, (0,) * 2000), 3)
        self.assertEqual(names(self.program, 3, (0,) * 2000), (3,) * 2000)

    def test_is_path(self):
        for path in ((), (0,), (1, 0, 1, 1), (0, 1)):
            self.assertIs(is_path(self.program, 0, path), True)
        self.assertIs(is_path(program=self.program, function=3, value=(0,) * 2000), True)
        self.assertIs(is_path(self.program, 3, (0,) * 2001), False)

    def wrong_paths(self):
        wrong = NO_TUPLES + [(2,), (-1,), (0, 2), (0, 1, 0), (HUGE,), [0], [], (0, [1]), ((0,),)]
        return wrong + [(value,) for value in NO_INTEGERS] + [(0, value) for value in NO_INTEGERS]

    def test_wrong_paths(self):
        for path in self.wrong_paths():
            self.assertIs(is_path(self.program, 0, path), False)
            self.gives(InvalidPath, path, callee, self.program, 0, path)
            self.gives(InvalidPath, path, names, self.program, 0, path)
        long = (0,) * 2001
        self.gives(InvalidPath, long, callee, self.program, 3, long)
        self.gives(InvalidPath, long, names, self.program, 3, long)

    def test_wrong_functions_come_first(self):
        for function in NO_INTEGERS + [4, -1, HUGE]:
            for path in ((), [0], None):
                self.gives(InvalidFunction, function, callee, self.program, function, path)
                self.gives(InvalidFunction, function, names, self.program, function, path)
                self.gives(InvalidFunction, function, path_of, self.program, function, path)
                self.gives(InvalidFunction, function, is_path, self.program, function, path)

    def test_path_of(self):
        self.assertEqual(path_of(self.program, 0, ()), ())
        self.assertEqual(path_of(program=self.program, function=0, names=(1, 0, 1, 2)), (0, 0, 0, 1))
        self.assertEqual(path_of(self.program, 3, (3,) * 2000), (0,) * 2000)

    def test_path_of_takes_the_least_call(self):
        program = Program([[1, 0, 1, 0], [1, 0, 0]])
        self.assertEqual(path_of(program, 0, (0, 1, 0, 1)), (1, 0, 1, 0))

    def test_no_call(self):
        for names_, at in (((0,), 0), ((2,), 0), ((1, 2, 0), 2), ((1, 0, 1, 1), 3), ((3, 3), 0)):
            self.raises(NoCall, {"at": at}, path_of, self.program, 0, names_)
        self.raises(NoCall, {"at": 1999}, path_of, self.program, 3, (3,) * 1999 + (0,))

    def test_wrong_names(self):
        wrong = NO_TUPLES + [(4,), (-1,), (HUGE,), (1, None), (3,) * 2001, [1], []]
        wrong += [(value,) for value in NO_INTEGERS]
        for given in wrong:
            self.gives(InvalidNames, given, path_of, self.program, 3, given)

    def test_wrong_names_come_ahead_of_no_call(self):
        given = (3, 3, 4)
        self.gives(InvalidNames, given, path_of, self.program, 0, given)

    def test_names_and_path_of(self):
        source = random.Random(22)
        for _ in range(200):
            program = naive.random_program(source)
            function = source.randrange(len(program))
            path = ()
            while len(path) < 6 and program.calls[naive.end(program.calls, function, path)]:
                path += (source.randrange(len(program.calls[naive.end(program.calls, function, path)])),)
            told = names(program, function, path)
            self.assertEqual(len(told), len(path))
            self.assertEqual(told, tuple(naive.end(program.calls, function, path[:at + 1]) for at in range(len(path))))
            self.assertEqual(callee(program, function, path), (function, *told)[-1])
            least = path_of(program, function, told)
            self.assertEqual(names(program, function, least), told)
            self.assertTrue(least <= path)


class CompleteAndRanked(Case):
    def test_complete(self):
        for count in range(1, 9):
            program = complete(count)
            self.assertIs(type(program), Program)
            self.assertEqual(program.calls, (tuple(range(count)),) * count)
        self.assertEqual(names(complete(count=8), 0, (7, 0, 3)), (7, 0, 3))

    def test_wrong_counts(self):
        for count in NO_INTEGERS + [0, 9, -1, HUGE]:
            self.gives(InvalidCount, count, complete, count)

    def test_ranked(self):
        self.assertEqual(ranked([0]).calls, ((),))
        self.assertEqual(ranked(order=(1, 0)).calls, ((), (0,)))
        self.assertEqual(ranked([3, 1, 0, 2]).calls, ((2,), (0, 2), (), (0, 1, 2)))
        for order in permutations(range(4)):
            calls = tuple(tuple(other for other in range(4) if order.index(other) > order.index(function))
                          for function in range(4))
            self.assertEqual(ranked(order).calls, calls)
            self.assertEqual(ranked(list(order)), ranked(order))
        self.assertEqual(ranked(list(range(8))).calls[0], (1, 2, 3, 4, 5, 6, 7))

    def test_ranked_keeps_its_argument(self):
        order = [2, 0, 1]
        ranked(order)
        self.assertEqual(order, [2, 0, 1])

    def test_wrong_orders(self):
        wrong = NO_LISTS + [[], (), [1], [0, 0], [0, 2], [1, 2], [-1, 0], list(range(9)), [0, HUGE], [False, True],
                            [0, True], [0, None], [0, [1]], ["0"], [0, "1"]]
        for given in wrong:
            self.gives(InvalidOrder, given, ranked, given)
