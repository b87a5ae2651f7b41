import random

from ringstays.acyclic import cycle_in, is_acyclic
from ringstays.programs import Program, callee, complete, ranked
from tests import naive
from tests.cases import Case


class Examples(Case):
    def test_examples(self):
        self.assertEqual([is_acyclic(ranked([2, 0, 1])), cycle_in(ranked([2, 0, 1])), is_acyclic(Program([[1], [0]]))],
                         [True, None, False])
        program = Program([[1], [2, 2], [0, 3], []])
        function, path = cycle_in(program)
        self.assertEqual([function == 3, path == (), callee(program, function, path) == function],
                         [False, False, True])


class Acyclic(Case):
    def check(self, program):
        reached = [set(row) for row in program.calls]
        for _ in program.calls:
            reached = [row.union(*[reached[function] for function in row]) for row in reached]
        around = [function for function, row in enumerate(reached) if function in row]
        self.assertIs(is_acyclic(program), not around)
        found = cycle_in(program)
        self.assertEqual(found is None, not around)
        if found is not None:
            self.assertEqual([type(found), len(found), type(found[1])], [tuple, 2, tuple])
            function, path = found
            self.assertGreater(len(path), 0)
            self.assertEqual(callee(program, function, path), function)
            self.assertEqual(cycle_in(Program(program.calls)), found)
        return not around

    def test_programs(self):
        source, told = random.Random(91), []
        for _ in range(600):
            told.append(self.check(naive.random_program(source, 8, 2)))
        self.assertGreater(min(told.count(True), told.count(False)), 100)

    def test_some_programs(self):
        for calls in ([[]], [[0]], [[], [1]], [[1, 1], []], [[1], [2], [3], [4], [5], [6], [7], []],
                      [[1], [2], [3], [4], [5], [6], [7], [0]], [[1, 2], [3], [3], []], [[1], [2], [1]]):
            self.check(Program(calls))
        for count in range(1, 9):
            self.assertIs(is_acyclic(complete(count)), False)
            self.assertIs(is_acyclic(program=ranked(list(range(count))[::-1])), True)
            self.assertIsNone(cycle_in(program=ranked(list(range(count)))))
        self.assertEqual(cycle_in(Program([[], [2, 1], []])), (1, (1,)))
