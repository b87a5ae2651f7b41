import random
from itertools import product

from ringstays.bodies import Bodies
from ringstays.cycles import is_cycle
from ringstays.conflicts import conflict_cycle
from ringstays.errors import Unreachable
from ringstays.jumps import jumps, one_cycle
from ringstays.logs import apply_log, fold_log
from ringstays.programs import Program, complete
from ringstays.reaching import fold_out, folded, is_reachable, is_witness, reach, witness
from ringstays.steps import fold_call, foldable, inlinable, inline_call
from tests import naive, naive_bodies
from tests.cases import HUGE, NO_INTEGERS, NO_TUPLES, Case

PAIR, LOOP = Program([[1], [0]]), Program([[0, 0]])
AROUND = (0, (0, 0))
SMALL = [[[1], [0]], [[1, 1], [0]], [[1, 0], [0]], [[0, 0]], [[1], [1]], [[1, 1], []], [[1], [2], [0]], [[1, 2], [0], []]]


def mixed(seed, count, functions=4):
    """Programs with sets: some behind logs of mode "now", some of both modes, some by chance."""
    source = random.Random(seed)
    for at in range(count):
        program = naive.random_program(source, functions, 2)
        if at % 3 == 0:
            yield program, naive.sets_of(naive.random_bodies(source, program, 7))
        elif at % 3 == 1:
            yield program, naive.random_log(source, program, source.randint(1, 8), 60)[1]
        else:
            yield program, naive.sets_of(grown(source, program, source.randint(1, 8)))


def grown(source, program, length, most=80):
    """Reachable bodies."""
    bodies = Bodies(program)
    for _ in range(length):
        steps = inlinable(bodies)
        if not steps or bodies.size() > most // 2:
            break
        bodies = inline_call(bodies, *source.choice(steps))
    return bodies if bodies.size() <= most else Bodies(program)


class Examples(Case):
    def test_examples(self):
        good = Bodies(PAIR, [[(0,), (0, 0)], [(0,)]])
        self.assertEqual([fold_out(good), reach(good)],
                         [[(0, (0,), "now"), (1, (0,), "now")], [(1, (0,), "now"), (0, (0,), "now")]])
        bad = Bodies(PAIR, [[(0,)], [(0,)]])
        self.assertEqual(folded(bad), bad)
        self.assertEqual([is_witness(bad, (AROUND, 0, 1)), is_witness(bad, (AROUND, 0, 2))], [True, False])


class Folding(Case):
    def check(self, program, sets):
        bodies, left = naive.bodies_of(program, sets), naive.folded(program.calls, sets)
        self.assertEqual(folded(bodies), naive.bodies_of(program, left))
        steps = fold_out(bodies)
        self.assertEqual([type(steps), {mode for _, _, mode in steps} - {"now"}], [list, set()])
        self.assertEqual(fold_log(bodies, steps), folded(bodies))
        self.assertEqual(fold_out(naive.bodies_of(program, sets)), steps)
        self.assertIs(is_reachable(bodies), not any(left))
        if not any(left):
            log = reach(bodies)
            self.assertEqual({mode for _, _, mode in log} - {"now"}, set())
            self.assertEqual(apply_log(Bodies(program), log), bodies)
            self.assertEqual([reach(bodies), type(log)], [log, list])
        else:
            with self.assertRaises(Unreachable) as caught:
                reach(bodies)
            self.assertIs(is_witness(bodies, caught.exception.witness), True)
        return not any(left)

    def test_samples(self):
        told = [self.check(program, sets) for program, sets in mixed(105, 900)]
        self.assertGreater(min(told.count(True), told.count(False)), 200)

    def test_any_order_ends_at_the_same(self):
        source = random.Random(1051)
        for program, sets in mixed(1052, 120):
            bodies = left = naive.bodies_of(program, sets)
            while foldable(left):
                left = fold_call(left, *source.choice(foldable(left)))
            self.assertEqual(folded(bodies), left)

    def test_reachable_exactly_if_a_log_makes_them(self):
        told = []
        for calls in SMALL:
            program, most = Program(calls), 5 if len(calls) < 3 else 4
            made = naive_bodies.successors(calls, most)
            for sets in naive_bodies.all_bodies(calls, most):
                bodies = naive.bodies_of(program, sets)
                told.append(is_reachable(bodies))
                self.assertIs(told[-1], sets in made)
                self.assertEqual(witness(bodies) is None, sets in made)
                self.assertEqual(conflict_cycle(bodies) is None, sets in made)
        self.assertGreater(min(told.count(True), told.count(False)), 60)

    def test_large_bodies(self):
        source = random.Random(1053)
        for program in (PAIR, complete(2), complete(3), Program([[1], [2], [3], [0]])):
            bodies = Bodies(program)
            for step in range(300):
                function, path = source.choice(inlinable(bodies)[:40])
                more = inline_call(bodies, function, path)
                if more.size() > 1200:
                    break
                bodies = more
            self.assertEqual(folded(bodies), Bodies(program))
            self.assertEqual(apply_log(Bodies(program), reach(bodies)), bodies)
            less = Bodies(program, [row[:-1] if row else row for row in bodies.inlined])
            self.assertEqual(is_reachable(less), witness(less) is None)
            if not is_reachable(less):
                self.assertIs(is_witness(less, witness(less)), True)

    def test_self_calls_are_never_folded(self):
        bodies = Bodies(LOOP, [naive.chain(2000)])
        self.assertEqual([fold_out(bodies), folded(bodies) == bodies, is_reachable(bodies)], [[], True, False])

    def test_functions_without_calls(self):
        program = Program([[1, 2], [2], []])
        bodies = Bodies(program, [[(0,), (1,)], [(0,)], []])
        self.assertIs(is_reachable(bodies), True)
        self.assertEqual(apply_log(Bodies(program), reach(bodies)), bodies)

    def test_kinds_of_arguments(self):
        bodies = Bodies(PAIR, [[(0,)], []])
        self.assertEqual([is_reachable(bodies=bodies), witness(bodies=bodies)], [True, None])
        self.assertEqual([folded(bodies=bodies), reach(bodies=bodies)], [Bodies(PAIR), [(0, (0,), "now")]])
        for ask in (fold_out, reach):
            ask(bodies).clear()
            self.assertEqual(ask(bodies=bodies), [(0, (0,), "now")])
        self.assertEqual(bodies, Bodies(PAIR, [[(0,)], []]))
        self.assertEqual([fold_out(Bodies(PAIR)), reach(Bodies(PAIR))], [[], []])


class Witnesses(Case):
    def check_witness(self, bodies, found):
        self.assertEqual([type(found), len(found)], [tuple, 3])
        cycle, one, other = found
        self.assertIs(is_cycle(bodies.program, cycle), True)
        self.assertTrue(0 <= one < other < 2 * len(cycle[1]))
        lengths = naive.jumps(bodies.program.calls, naive.sets_of(bodies), cycle)
        self.assertFalse(naive_bodies.meet_each_other(lengths, one, other))
        self.assertIs(is_witness(bodies, found), True)
        self.assertEqual(witness(Bodies(bodies.program, bodies.inlined)), found)

    def test_samples(self):
        kinds = set()
        for program, sets in mixed(104, 700):
            bodies = naive.bodies_of(program, sets)
            found = witness(bodies)
            self.assertEqual(found is None, not any(naive.folded(program.calls, sets)))
            if found is not None:
                self.check_witness(bodies, found)
                self.assertIs(one_cycle(bodies, found[0]), False)
                kinds.add((len(found[0][1]) > 3, found[2] >= len(found[0][1])))
        self.assertEqual(kinds, {(False, False), (False, True), (True, False), (True, True)})

    def test_all_values_on_short_cycles(self):
        told = []
        for calls in ([[1], [0]], [[0, 0]], [[1, 0], [0]], [[1, 1], [0]]):
            cycles = naive_bodies.all_cycles(calls, 4)
            for sets in naive_bodies.all_bodies(calls, 4)[::3]:
                bodies = naive.bodies_of(Program(calls), sets)
                reachable = is_reachable(bodies)
                self.assertTrue(not reachable or all(one_cycle(bodies, cycle) for cycle in cycles))
                for cycle in cycles[::2]:
                    lengths = naive.jumps(calls, sets, cycle)
                    for one, other in product(range(-1, 2 * len(lengths) + 2), repeat=2):
                        right = 0 <= one < other < 2 * len(lengths)
                        right = right and not naive_bodies.meet_each_other(lengths, one, other)
                        self.assertIs(is_witness(bodies, (cycle, one, other)), right)
                        self.assertFalse(right and reachable)
                        told.append(right)
        self.assertGreater(told.count(True), 500)

    def test_other_just_below_twice_the_calls(self):
        bodies = Bodies(LOOP, [[(0,)]])
        cycle = (0, (0,))
        self.assertEqual([jumps(bodies, cycle), is_witness(bodies, (cycle, 0, 1))], [[2], True])
        for one, other in ((0, 2), (0, 3), (1, 2), (1, 3)):
            self.assertIs(is_witness(bodies, (cycle, one, other)), False)
        three = Bodies(PAIR, [[(0,), (0, 0), (0, 0, 0)], [(0,), (0, 0), (0, 0, 0)]])
        for one in range(3):
            self.assertIs(is_witness(three, (AROUND, one, 3)), True)
            self.assertIs(is_witness(three, (AROUND, one, 4)), False)
        self.check_witness(bodies, witness(bodies))
        self.check_witness(three, witness(three))

    def test_long_cycles(self):
        count = 2100000
        path = (0,) * (count - 1) + (1,)
        bodies = Bodies(LOOP, [[(0,)]])
        self.assertEqual(jumps(bodies, (0, path[-5:])), [2, 2, 2, 2, 1])
        self.assertIs(is_witness(bodies, ((0, path), 5, count + 4)), False)
        bad = Bodies(LOOP, [[(0,), (1,)]])
        self.assertIs(is_witness(bad, ((0, path), 1, count)), True)
        self.assertIs(is_witness(bad, ((0, path), 0, 2 * count - 1)), True)
        self.assertIs(is_witness(bad, ((0, path), 0, 2 * count - 2)), False)
        self.assertIs(is_witness(bad, ((0, path), 0, 2 * count)), False)
        self.assertIs(is_witness(bad, ((0, path + (1,)), 0, 1)), False)

    def test_large_bodies(self):
        self.assertIsNone(witness(Bodies(PAIR, [naive.chain(1998), naive.chain(1)])))
        for lengths in ((1000, 1000), (1, 1999), (999, 1001), (500, 1500)):
            bodies = Bodies(PAIR, [naive.chain(length) for length in lengths])
            found = witness(bodies)
            self.assertIs(is_witness(bodies, found), True)
        self.assertIs(is_witness(Bodies(LOOP, [naive.chain(2000)]), ((0, (0,)), 0, 1)), True)

    def test_wrong_values(self):
        bad = Bodies(PAIR, [[(0,)], [(0,)]])
        self.assertIs(is_witness(bodies=bad, value=(AROUND, 0, 1)), True)
        wrong = NO_TUPLES + [(), (AROUND, 0), (AROUND, 0, 1, 2), [AROUND, 0, 1], (AROUND, 1, 0), (AROUND, 0, 0),
                             (AROUND, -1, 0), (AROUND, 0, 4), (AROUND, 0, HUGE), ((0, [0, 0]), 0, 1),
                             ([0, (0, 0)], 0, 1), ((0, (0,)), 0, 1), ((0, (0, 0, 0, 0)), 0, 1), (None, 0, 1),
                             ((False, (0, 0)), 0, 1), ((0, (0, False)), 0, 1), (0, 1, AROUND), (AROUND, 0, 1, None)]
        wrong += [(AROUND, value, 1) for value in NO_INTEGERS] + [(AROUND, 0, value) for value in NO_INTEGERS]
        for value in wrong:
            self.assertIs(is_witness(bad, value), False)
        for value in (None, (AROUND, 0, 1), (AROUND, 0, 3)):
            self.assertIs(is_witness(Bodies(PAIR), value), False)
