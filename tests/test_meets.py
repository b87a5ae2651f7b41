import random
from itertools import product

from ringstays.bodies import Bodies, copy_at
from ringstays.errors import NotBlocks, OtherProgram, Unreachable
from ringstays.logs import apply_log
from ringstays.meets import between, is_successor, meet
from ringstays.programs import Program, callee, complete
from ringstays.reaching import is_witness, witness
from ringstays.steps import inlinable, inline_call
from tests import naive, naive_bodies
from tests.cases import Case
from tests.test_reaching import grown

PAIR = Program([[1], [0]])
ASKED = [is_successor, between, meet]
SMALL = [([[1], [0]], 7), ([[1, 1], [0]], 6), ([[1, 0], [0]], 6), ([[1], [2], [0]], 6), ([[1, 2], [0], []], 6),
         ([[1, 1], []], 4), ([[1, 2], [2], []], 6), ([[0, 1], [0, 1]], 6), ([[1], [2], [1, 0]], 5), ([[2, 1], [2, 2], [0]], 5)]


def related(source, program, length=5):
    """Two reachable bodies, often one of them made of the other or both of the same."""
    one = grown(source, program, source.randint(0, length))
    kind = source.randrange(3)
    if kind == 0:
        return one, grown(source, program, source.randint(0, length))
    other = above(source, one, source.randint(0, 3))
    return (above(source, one, source.randint(0, 3)) if kind == 1 else one), other


def above(source, bodies, length):
    for _ in range(length):
        steps = inlinable(bodies)
        if steps and bodies.size() < 40:
            bodies = inline_call(bodies, *source.choice(steps))
    return bodies


class Examples(Case):
    def test_examples(self):
        one, other = Bodies(PAIR, [[(0,)], []]), Bodies(PAIR, [[], [(0,)]])
        more = Bodies(PAIR, [[(0,), (0, 0)], [(0,)]])
        self.assertEqual([between(other, more), is_successor(more, other), is_successor(more, one)],
                         [[(0, (0,), "now")], True, False])
        self.assertEqual([meet(one, other).inlined, meet(other, more) == other], [((), ()), True])


class Errors(Case):
    def test_other_programs(self):
        bad = Bodies(PAIR, [[(0,)], [(0,)]])
        for ask in ASKED:
            for one in (Bodies(PAIR), bad):
                for other in (Bodies(Program([[1, 1], [0]])), Bodies(Program([[0]]), [[(0,)]])):
                    error = self.raises(OtherProgram, {"other": other}, ask, one, other)
                    self.assertIs(error.other, other)

    def test_unreachable(self):
        program = Program([[1], [0], [2]])
        good, bad = Bodies(program), Bodies(program, [[(0,)], [(0,)], []])
        worse = Bodies(program, [[], [], [(0,)]])
        self.assertNotEqual(witness(bad), witness(worse))
        for ask in ASKED:
            for one, other, told in ((good, bad, bad), (bad, good, bad), (worse, bad, worse), (bad, worse, bad)):
                with self.assertRaises(Unreachable) as caught:
                    ask(one, other)
                self.assertIs(is_witness(told, caught.exception.witness), True)
                self.assertEqual(caught.exception.witness, witness(told))

    def test_equal_programs(self):
        self.assertIs(is_successor(Bodies(Program(((1,), (0,)))), Bodies(Program([[1], [0]]))), True)


class Successors(Case):
    def check_gap(self, lower, upper, function, path):
        calls = lower.program.calls
        low, high = naive.sets_of(lower), naive.sets_of(upper)
        self.assertTrue(path == () or path in high[function])
        self.assertTrue(path == () or len(path) in naive_bodies.landings(calls, low, function, path))
        reached = callee(lower.program, function, path)
        self.assertFalse(low[reached] <= set(copy_at(upper, function, path)))

    def check_no_gap(self, lower, upper):
        low, high = naive.sets_of(lower), naive.sets_of(upper)
        for function, paths in enumerate(high):
            for path in [(), *paths]:
                landed = naive_bodies.landings(lower.program.calls, low, function, path)
                if path == () or len(path) in landed:
                    reached = callee(lower.program, function, path)
                    self.assertTrue(low[reached] <= set(copy_at(upper, function, path)))

    def check(self, lower, upper, right):
        self.assertIs(is_successor(upper, lower), right)
        if right:
            log = between(lower, upper)
            self.assertEqual([type(log), {mode for _, _, mode in log} - {"now"}], [list, set()])
            self.assertEqual(apply_log(lower, log), upper)
            self.check_no_gap(lower, upper)
            self.assertEqual(between(Bodies(lower.program, lower.inlined), upper), log)
        else:
            with self.assertRaises(NotBlocks) as caught:
                between(lower, upper)
            self.check_gap(lower, upper, caught.exception.function, caught.exception.path)
            with self.assertRaises(NotBlocks) as again:
                between(lower, upper)
            self.assertEqual(vars(again.exception), vars(caught.exception))

    def test_exactly_what_logs_make(self):
        source, told = random.Random(131), []
        for calls, most in SMALL:
            made = naive_bodies.successors(calls, most)
            over = naive_bodies.all_above(made)
            bodies = {sets: naive.bodies_of(Program(calls), sets) for sets in made}
            pairs = list(product(sorted(made, key=lambda sets: list(map(sorted, sets))), repeat=2))
            for low, high in source.sample(pairs, min(len(pairs), 400)):
                told.append(high in over[low])
                self.check(bodies[low], bodies[high], high in over[low])
        self.assertGreater(min(told.count(True), told.count(False)), 300)

    def test_by_landings(self):
        """Exactly if lower lands, from each function, at each path at which upper lands."""
        source, told = random.Random(1311), []
        for _ in range(600):
            program = naive.random_program(source, 3, 2)
            lower, upper = related(source, program, 3)
            if max(upper.size(), lower.size()) > 12:
                continue
            low, high = naive.sets_of(lower), naive.sets_of(upper)
            right = True
            for function in range(len(program)):
                # Where the bodies differ they do so within one jump.
                for path in naive.open_paths(program.calls, function, high[function]):
                    right = right and len(path) in naive_bodies.landings(program.calls, low, function, path)
            told.append(right)
            self.check(lower, upper, right)
        self.assertGreater(min(told.count(True), told.count(False)), 40)

    def test_own_successors(self):
        source = random.Random(1312)
        for _ in range(100):
            program = naive.random_program(source)
            bodies = grown(source, program, 6)
            self.check(bodies, bodies, True)
            self.check(Bodies(program), bodies, True)
            self.check(bodies, above(source, bodies, 4), True)

    def test_functions_without_calls(self):
        program = Program([[1, 1], []])
        rows = [[], [(0,)], [(1,)], [(0,), (1,)]]
        for low, high in product(rows, repeat=2):
            self.check(Bodies(program, [low, []]), Bodies(program, [high, []]), set(low) <= set(high))

    def test_large_bodies(self):
        source = random.Random(1313)
        for program in (PAIR, complete(2), Program([[1], [2], [3], [0]]), complete(3)):
            lower = grown(source, program, 12, 200)
            upper = lower
            while upper.size() < 700:
                upper = inline_call(upper, *source.choice(inlinable(upper)[:30]))
            if upper.size() <= 1900:
                self.assertEqual(apply_log(lower, between(lower, upper)), upper)
                self.assertEqual(meet(lower, upper), lower)
                self.assertIs(is_successor(lower, upper), False)

    def test_kinds_of_arguments(self):
        one, other = Bodies(PAIR, [[(0,)], []]), Bodies(PAIR)
        self.assertIs(is_successor(upper=one, lower=other), True)
        self.assertEqual(between(lower=other, upper=one), [(0, (0,), "now")])
        between(other, one).clear()
        self.assertEqual(len(between(other, one)), 1)
        self.assertEqual(meet(one=one, other=other), other)
        self.assertEqual([one, other], [Bodies(PAIR, [[(0,)], []]), Bodies(PAIR)])
        self.assertEqual(between(one, one), [])


class Meets(Case):
    def test_greatest_below_both(self):
        source = random.Random(132)
        for calls, most in SMALL:
            made = naive_bodies.successors(calls, most)
            over = naive_bodies.all_above(made)
            bodies = {sets: naive.bodies_of(Program(calls), sets) for sets in made}
            pairs = list(product(sorted(made, key=lambda sets: list(map(sorted, sets))), repeat=2))
            for one, other in source.sample(pairs, min(len(pairs), 250)):
                below = [sets for sets in made if one in over[sets] and other in over[sets]]
                greatest = [sets for sets in below if all(sets in over[low] for low in below)]
                self.assertEqual([meet(bodies[one], bodies[other])], [bodies[sets] for sets in greatest])

    def test_laws(self):
        source, proper = random.Random(1321), 0
        for _ in range(600):
            program = naive.random_program(source, 4, 2)
            one, other = related(source, program)
            found = meet(one, other)
            self.assertIs(type(found), Bodies)
            self.assertEqual([meet(other, one), meet(one, one), meet(found, one)], [found, one, found])
            self.assertTrue(is_successor(one, found) and is_successor(other, found))
            if is_successor(other, one):
                self.assertEqual(found, one)
            third = above(source, Bodies(program), 4)
            self.assertEqual(meet(meet(one, other), third), meet(one, meet(other, third)))
            proper += found.size() > 0 and found != one and found != other
        self.assertGreater(proper, 15)

    def test_calls_that_no_fold_of_one_tells(self):
        # In one body 0 inlines 1 ahead of the step of 1, in the other one behind it, or not at all.
        program = Program([[1], [2], [0]])
        one = apply_log(Bodies(program), [(0, (0,), "now"), (1, (0,), "now")])
        other = apply_log(Bodies(program), [(1, (0,), "now")])
        self.assertEqual(meet(one, other), Bodies(program))
