import random
from itertools import combinations

from ringstays.bodies import Bodies
from ringstays.errors import InvalidGroup, StuckAt
from ringstays.keeping import foldable_kept, folded_kept, is_kept_log, is_reachable_kept, reach_kept
from ringstays.logs import apply_log
from ringstays.programs import Program, callee
from ringstays.reaching import folded, is_reachable
from ringstays.steps import fold_call
from tests import naive, naive_bodies
from tests.cases import HUGE, NO_INTEGERS, NO_LISTS, Case
from tests.test_reaching import mixed

PAIR, LOOP = Program([[1], [0]]), Program([[0, 0]])
ASKED = [foldable_kept, folded_kept, is_reachable_kept, reach_kept,
         lambda bodies, group: is_kept_log(bodies, group, None)]
WRONG_GROUPS = NO_LISTS + [[2], [-1], [HUGE], [1, 0], [0, 0], [0, 1, 1], [0, 2], [[0]], [(0,)]]
WRONG_GROUPS += [[value] for value in NO_INTEGERS] + [[0, value] for value in NO_INTEGERS]


def groups_of(program):
    count = len(program)
    return [list(group) for size in range(count + 1) for group in combinations(range(count), size)]


class Examples(Case):
    def test_examples(self):
        bodies = Bodies(PAIR, [[(0,)], [(0,)]])
        self.assertEqual([foldable_kept(bodies, []), foldable_kept(bodies, [0]), folded_kept(bodies, [0]).size()],
                         [[], [(1, (0,), "first")], 0])
        self.assertEqual([reach_kept(bodies, [0]), is_kept_log(bodies, [1], reach_kept(bodies, [0]))],
                         [[(0, (0,), "now"), (1, (0,), "first")], False])
        self.raises(InvalidGroup, {"given": [1, 0]}, foldable_kept, bodies, [1, 0])


class Errors(Case):
    def test_wrong_groups(self):
        for bodies in (Bodies(PAIR), Bodies(PAIR, [[(0,)], [(0,)]])):
            for ask in ASKED:
                for group in WRONG_GROUPS:
                    self.gives(InvalidGroup, group, ask, bodies, group)

    def test_stuck(self):
        bodies = Bodies(Program([[0, 1], [1, 0]]), [[(0,), (1,)], [(0,), (0, 0), (0, 0, 1)]])
        for group, left in (([], bodies.inlined), ([0], (((1,),), ((0,), (0, 0)))),
                            ([1], (((0,),), ((0,), (0, 0), (0, 0, 1))))):
            error = self.raises(StuckAt, {"stuck": folded_kept(bodies, group)}, reach_kept, bodies, group)
            self.assertEqual(error.stuck.inlined, left)
        self.assertEqual(len(reach_kept(bodies, (0, 1))), 5)


class Folding(Case):
    def test_foldable_by_the_words(self):
        both = 0
        for program, sets in mixed(111, 300):
            bodies = naive.bodies_of(program, sets)
            for group in groups_of(program):
                found = []
                for function, paths in enumerate(sets):
                    for path in sorted(paths):
                        reached = naive.end(program.calls, function, path)
                        part = naive.copy(paths, path)
                        modes = ["first"] if not part and reached in group else []
                        modes += ["now"] if part == sets[reached] else []
                        found += [(function, path, mode) for mode in modes]
                        both += len(modes) == 2
                self.assertEqual(foldable_kept(bodies, group), found)
                self.assertEqual(found, sorted(found))
        self.assertGreater(both, 50)

    def test_self_calls(self):
        bodies = Bodies(LOOP, [[(0,), (0, 1), (1,)]])
        self.assertEqual(foldable_kept(bodies, [0]), [(0, (0, 1), "first"), (0, (1,), "first")])
        self.assertEqual([foldable_kept(bodies, []), folded_kept(bodies, []), folded_kept(bodies, [0])],
                         [[], bodies, Bodies(LOOP)])
        self.assertEqual([is_reachable_kept(bodies, []), is_reachable_kept(bodies, [0])], [False, True])
        self.assertIs(is_kept_log(bodies, [0], reach_kept(bodies, [0])), True)

    def test_any_order_ends_at_the_same(self):
        source = random.Random(1111)
        for program, sets in mixed(1112, 150, 3):
            bodies = naive.bodies_of(program, sets)
            for group in groups_of(program):
                left = bodies
                while foldable_kept(left, group):
                    function, path, mode = source.choice(foldable_kept(left, group))
                    left = fold_call(left, function, path, original=mode == "first")
                self.assertEqual(folded_kept(bodies, group), left)
                self.assertIs(is_reachable_kept(bodies, group), left.size() == 0)

    def test_the_empty_group(self):
        """Point [116]."""
        for program, sets in mixed(116, 200):
            bodies = naive.bodies_of(program, sets)
            self.assertEqual(folded_kept(bodies, []), folded(bodies))
            self.assertEqual(folded_kept(bodies, ()), folded(bodies))
            self.assertIs(is_reachable_kept(bodies, []), is_reachable(bodies))

    def test_large_bodies(self):
        bodies = Bodies(PAIR, [naive.chain(1000), naive.chain(1000)])
        self.assertEqual([is_reachable_kept(bodies, []), folded_kept(bodies, []).size()], [False, 2000])
        self.assertIs(is_reachable_kept(bodies, [0]), True)
        self.assertIs(is_kept_log(bodies, [0], reach_kept(bodies, [0])), True)
        bodies = Bodies(LOOP, [naive.chain(2000)])
        self.assertEqual(reach_kept(bodies, [0]), [(0, path, "first") for path in bodies.inlined[0]])


class KeptLogs(Case):
    def test_samples(self):
        told = []
        for program, sets in mixed(112, 300, 3):
            bodies = naive.bodies_of(program, sets)
            for group in groups_of(program):
                left = naive.folded(program.calls, sets, group)
                self.assertEqual(folded_kept(bodies, group), naive.bodies_of(program, left))
                told.append(not any(left))
                self.assertIs(is_reachable_kept(bodies, group), told[-1])
                if told[-1]:
                    self.check_log(bodies, group)
                else:
                    self.raises(StuckAt, {"stuck": folded_kept(bodies, group)}, reach_kept, bodies, group)
            self.assertIs(is_reachable_kept(bodies, list(range(len(program)))), True)
        self.assertGreater(min(told.count(True), told.count(False)), 200)

    def check_log(self, bodies, group):
        log = reach_kept(bodies, group)
        self.assertIs(type(log), list)
        self.assertEqual(apply_log(Bodies(bodies.program), log), bodies)
        for function, path, mode in log:
            self.assertTrue(mode == "now" or callee(bodies.program, function, path) in group)
        self.assertIs(is_kept_log(bodies, group, log), True)
        self.assertIs(is_kept_log(bodies, tuple(group), tuple(log)), True)
        self.assertEqual(reach_kept(bodies, tuple(group)), log)

    def test_enough_exactly_if_there_is_a_log(self):
        for calls, most in (([[1], [0]], 5), ([[1, 1], [0]], 4), ([[1, 0], [0]], 4), ([[0, 0]], 4),
                            ([[1], [2], [0]], 4), ([[1, 2], [0], []], 3)):
            program = Program(calls)
            for group in groups_of(program):
                made = naive_bodies.successors(calls, most, group)
                for sets in naive_bodies.all_bodies(calls, most):
                    self.assertIs(is_reachable_kept(naive.bodies_of(program, sets), group), sets in made)

    def test_a_just_enough_group(self):
        program = Program([[1], [2], [0]])
        bodies = Bodies(program, [[(0,)], [(0,)], [(0,)]])
        told = [is_reachable_kept(bodies, group) for group in ([], [0], [1], [2], [0, 1], [0, 1, 2])]
        self.assertEqual(told, [False, True, True, True, True, True])
        bodies = Bodies(LOOP, [[(0,)]])
        self.assertEqual([is_reachable_kept(bodies, []), is_reachable_kept(bodies, [0])], [False, True])

    def test_wrong_values(self):
        bodies = Bodies(PAIR, [[(0,)], [(0,)]])
        right = [(0, (0,), "now"), (1, (0,), "first")]
        self.assertIs(is_kept_log(bodies=bodies, group=[0], value=right), True)
        self.assertIs(is_kept_log(bodies, [0, 1], [(1, (0,), "now"), (0, (0,), "first")]), True)
        wrong = NO_LISTS + [[], right[:1], right[::-1], right + right, [right[0], [1, (0,), "first"]],
                            [right[0], (1, [0], "first")], [right[0], (1, (0,), "now")], [right[0], (1, (0,))],
                            [(0, (0,), "first"), (1, (0,), "first")], [right[0], (True, (0,), "first")],
                            [right[0], (1, (False,), "first")], [right[0], (2, (0,), "first")], [right[0], None],
                            [right[0], (1, (0,), "First")], [(1, (0,), "now"), (0, (0,), "first")], right * 1001]
        for value in wrong:
            self.assertIs(is_kept_log(bodies, [0], value), False)
        self.assertIs(is_kept_log(bodies, [], right), False)
        self.assertIs(is_kept_log(Bodies(PAIR), [0], []), True)
        self.assertIs(is_kept_log(Bodies(PAIR), [0], right), False)

    def test_logs_of_2000_steps(self):
        bodies = Bodies(LOOP, [naive.chain(2000)])
        log = [(0, path, "first") for path in bodies.inlined[0]]
        self.assertIs(is_kept_log(bodies, [0], log), True)
        self.assertIs(is_kept_log(bodies, [], log), False)

    def test_kinds_of_arguments(self):
        bodies = Bodies(PAIR, [[(0,)], [(0,)]])
        self.assertEqual(foldable_kept(bodies=bodies, group=(0,)), [(1, (0,), "first")])
        self.assertEqual(folded_kept(bodies=bodies, group=(0,)), Bodies(PAIR))
        self.assertIs(is_reachable_kept(bodies=bodies, group=(1,)), True)
        self.assertEqual(reach_kept(bodies=bodies, group=(0,)), [(0, (0,), "now"), (1, (0,), "first")])
        group = [0]
        for ask in (foldable_kept, reach_kept):
            ask(bodies, group).clear()
            self.assertTrue(ask(bodies, group))
        self.assertEqual([bodies, group], [Bodies(PAIR, [[(0,)], [(0,)]]), [0]])
