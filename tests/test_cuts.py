import random
from itertools import combinations

from ringstays.bodies import is_inlined
from ringstays.cuts import cut, cut_program
from ringstays.errors import InvalidGroup, InvalidPasses, TooMany
from ringstays.passes import run_passes
from ringstays.programs import Program, names, path_of
from tests import naive
from tests.cases import HUGE, NO_INTEGERS, NO_LISTS, Case

WRONG_GROUPS = NO_LISTS + [[1, 0], [0, 0], [8], [0, 8], [-1], [HUGE], [-1, 0], list(range(9)), (1, 0), [[0]]]
WRONG_GROUPS += [[value] for value in NO_INTEGERS] + [[0, value] for value in NO_INTEGERS]


class Examples(Case):
    def test_examples(self):
        self.assertEqual(cut([("now", 0, 1), ("first", 2, 0), ("first", 1, 1)], [0, 1]),
                         [("now", 0, 1), ("first", 1, 1)])
        self.assertEqual(cut_program(Program([[2, 1, 0], [1, 2], [0]]), [0, 1]).calls, ((1, 0), (1,), ()))


class Cuts(Case):
    def test_cut(self):
        passes = [("now", 0, 1), ("now", 0, 1), ("first", 2, 2), ("now", 2, 0), ("first", 7, 0)]
        self.assertEqual(cut(passes, [0, 1, 2]), passes[:4])
        self.assertEqual(cut(passes=tuple(passes), functions=(0, 1)), passes[:2])
        self.assertEqual(cut(passes, [2]), [("first", 2, 2)])
        self.assertEqual(cut(passes, []), [])
        self.assertEqual(cut(passes, list(range(8))), passes)
        self.assertIs(type(cut(tuple(passes), ())), list)
        self.assertEqual(cut([], [3]), [])

    def test_new_lists_and_same_arguments(self):
        passes, functions = [("now", 0, 1)], [0, 1]
        cut(passes, functions).clear()
        self.assertEqual([passes, functions], [[("now", 0, 1)], [0, 1]])
        self.assertIsNot(cut(passes, functions), passes)

    def test_cut_program(self):
        program = Program([[2, 1, 0, 1], [1, 2], [0, 2], [0]])
        self.assertEqual(cut_program(program, [0, 1]).calls, ((1, 0, 1), (1,), (), ()))
        self.assertEqual(cut_program(program=program, functions=(2,)).calls, ((), (), (2,), ()))
        self.assertEqual(cut_program(program, []).calls, ((), (), (), ()))
        self.assertEqual(cut_program(program, [0, 1, 2, 3, 6]), program)
        self.assertEqual(cut_program(program, [5, 6, 7]).calls, ((), (), (), ()))
        self.assertIs(type(cut_program(program, [])), Program)
        self.assertEqual(program, Program([[2, 1, 0, 1], [1, 2], [0, 2], [0]]))

    def test_wrong_groups(self):
        for given in WRONG_GROUPS:
            self.gives(InvalidGroup, given, cut, [("now", 0, 1)], given)
            self.gives(InvalidGroup, given, cut_program, Program([[0]]), given)

    def test_wrong_passes_come_first(self):
        for given in NO_LISTS + [[("now", 0, 0)], [("now", 0, 1)] * 61, [["now", 0, 1]]]:
            self.gives(InvalidPasses, given, cut, given, [0, 1])
            self.gives(InvalidPasses, given, cut, given, [1, 0])


class MainStatements(Case):
    def test_cut_lists_and_cut_programs(self):
        source = random.Random(44)
        for _ in range(60):
            program = naive.random_program(source)
            passes = naive.random_passes(source, source.randint(0, 6))
            for size in range(4):
                for group in combinations(range(4), size):
                    small = cut_program(program, group)
                    self.assertEqual(small.calls, self.plain_cut(program, group))
                    try:
                        self.compare(program, small, passes, group)
                    except TooMany:
                        continue

    def plain_cut(self, program, group):
        return tuple(tuple(callee for callee in row if callee in group and function in group)
                     for function, row in enumerate(program.calls))

    def compare(self, program, small, passes, group):
        """On the cut program the list does what its cut does, and what it does within the group anyway."""
        whole, less, within = (run_passes(program, passes), run_passes(program, cut(passes, group)),
                               run_passes(small, passes))
        self.assertEqual(within, run_passes(small, cut(passes, group)))
        for function in group:
            if function >= len(program):
                continue
            told = [self.moved(program, small, group, function, path) for path in whole.inlined[function]]
            self.assertEqual(sorted(path for path in told if path is not None), list(within.inlined[function]))
            for path in less.inlined[function]:
                self.assertTrue(is_inlined(whole, function, path))
            inner = [path for path in whole.inlined[function] if set(names(program, function, path)) <= set(group)]
            self.assertEqual(inner, list(less.inlined[function]))

    def moved(self, program, small, group, function, path):
        """The path of the same calls in the cut program, and None if there is none."""
        found = []
        for call in path:
            row = program.calls[function]
            if row[call] not in group:
                return None
            found.append(sum(1 for callee in row[:call] if callee in group))
            function = row[call]
        return tuple(found)

    def test_names_of_moved_paths(self):
        program = Program([[2, 1, 0], [0, 2, 1], [0]])
        small = cut_program(program, [0, 1])
        self.assertEqual(path_of(program, 0, (1, 0, 0)), (1, 0, 2))
        self.assertEqual(path_of(small, 0, (1, 0, 0)), (0, 0, 1))
