import random

from ringstays.bodies import Bodies
from ringstays.conflicts import conflict_cycle, next_conflicts
from ringstays.errors import InvalidFunction, InvalidPath, NotInlined
from ringstays.jumps import one_cycle
from ringstays.programs import Program
from tests import naive
from tests.cases import HUGE, NO_INTEGERS, NO_TUPLES, Case

PAIR = Program([[1], [0]])


class Examples(Case):
    def test_examples(self):
        good = Bodies(PAIR, [[(0,), (0, 0)], [(0,)]])
        self.assertIsNone(conflict_cycle(good))
        self.assertEqual(next_conflicts(good, 1, (0,)), [(0, (0,))])


class Next(Case):
    def test_errors(self):
        bodies = Bodies(PAIR, [[(0,)], []])
        for function in NO_INTEGERS + [-1, 2, HUGE]:
            self.gives(InvalidFunction, function, next_conflicts, bodies, function, None)
        for path in NO_TUPLES + [(1,), (0, 1), (-1,), (HUGE,), [0], (0,) * 2001] + [(value,) for value in NO_INTEGERS]:
            self.gives(InvalidPath, path, next_conflicts, bodies, 0, path)
        for function, path in ((0, (0, 0)), (1, (0,)), (0, (0,) * 2000)):
            error = self.raises(NotInlined, {"path": path}, next_conflicts, bodies, function, path)
            self.assertIs(error.path, path)

    def test_some(self):
        program = Program([[1, 0], [1, 2], []])
        bodies = Bodies(program, [[(0,), (0, 1), (1,), (1, 0)], [(0,), (0, 1)], []])
        self.assertEqual(next_conflicts(bodies, 0, (0,)), [(0, (0, 1)), (1, (0,))])
        # What is in both is no conflict, nor is what is behind a difference.
        self.assertEqual(next_conflicts(bodies, 0, (1,)), [(0, (0, 1)), (0, (1,))])
        self.assertEqual(next_conflicts(bodies, 0, (1, 0)), [(1, (0,))])
        self.assertEqual(next_conflicts(bodies, 0, (0, 1)), [])
        self.assertEqual([next_conflicts(bodies, function, ()) for function in range(3)], [[], [], []])

    def test_a_tuple_stands_once(self):
        # Seen from the copy behind the first self call and from the body it is the same path.
        bodies = Bodies(Program([[0, 0]]), [[(0,), (0, 0), (0, 1)]])
        self.assertEqual(next_conflicts(bodies, 0, (0,)), [(0, (0, 0)), (0, (0, 1))])
        for program, sets in self.samples(1031, 400):
            bodies = naive.bodies_of(program, sets)
            for function, row in enumerate(bodies.inlined):
                for path in row:
                    found = next_conflicts(bodies, function, path)
                    self.assertEqual(len(set(found)), len(found))

    def samples(self, seed, count):
        source = random.Random(seed)
        for at in range(count):
            program = naive.random_program(source, 3, 2)
            if at % 3:
                bodies = naive.random_bodies(source, program, 9)
                yield program, naive.sets_of(bodies)
            else:
                yield program, naive.random_log(source, program, 5, 40)[1]

    def test_by_the_words(self):
        told = []
        for program, sets in self.samples(1032, 500):
            bodies = naive.bodies_of(program, sets)
            for function, row in enumerate(bodies.inlined):
                for path in ((),) + row:
                    found = naive.next_conflicts(program.calls, sets, function, path)
                    self.assertEqual(next_conflicts(bodies, function, path), found)
                    told.append(len(found))
        self.assertGreater(max(told), 3)

    def test_long_paths(self):
        bodies = Bodies(PAIR, [naive.chain(1500), naive.chain(500)])
        self.assertEqual(next_conflicts(bodies, 0, (0,)), [(0, (0,) * 502)])
        self.assertEqual(next_conflicts(bodies, 0, (0,) * 1499), [(1, (0, 0))])
        self.assertEqual(next_conflicts(bodies, 1, (0,) * 499), [(0, (0, 0))])

    def test_kinds_of_arguments(self):
        bodies = Bodies(PAIR, [[(0,)], [(0,)]])
        self.assertEqual(next_conflicts(bodies=bodies, function=0, path=(0,)), [(1, (0,))])
        next_conflicts(bodies, 0, (0,)).clear()
        self.assertEqual(next_conflicts(bodies, 0, (0,)), [(1, (0,))])
        self.assertEqual(bodies, Bodies(PAIR, [[(0,)], [(0,)]]))


class ConflictCycles(Case):
    def check_cycle(self, program, sets):
        """None exactly for reachable bodies; otherwise just what a conflict cycle is."""
        bodies = naive.bodies_of(program, sets)
        cycle = conflict_cycle(bodies)
        reachable = not any(naive.folded(program.calls, sets))
        self.assertEqual(cycle is None, reachable)
        if cycle is not None:
            self.assertIs(type(cycle), list)
            self.assertEqual(len(set(cycle)), len(cycle))
            for (function, path), following in zip(cycle, cycle[1:] + cycle[:1]):
                self.assertIn(path, sets[function])
                self.assertIn(following, naive.next_conflicts(program.calls, sets, function, path))
            again = conflict_cycle(bodies=naive.bodies_of(program, sets))
            self.assertEqual(again, cycle)
            self.assertIsNot(again, cycle)
        return reachable, 0 if cycle is None else len(cycle)

    def test_random_bodies(self):
        source, kinds = random.Random(1033), []
        for _ in range(700):
            program = naive.random_program(source, 3, 2)
            kinds.append(self.check_cycle(program, naive.sets_of(naive.random_bodies(source, program, 7))))
        self.assertGreater(sum(1 for reachable, _ in kinds if not reachable), 150)
        self.assertGreater(sum(1 for reachable, _ in kinds if reachable), 150)
        self.assertTrue({1, 2, 3} <= {length for _, length in kinds})

    def test_bodies_behind_logs(self):
        source, kinds = random.Random(1034), []
        for _ in range(400):
            program = naive.random_program(source, 4, 2)
            sets = naive.random_log(source, program, source.randint(1, 7), 60)[1]
            kinds.append(self.check_cycle(program, sets)[0])
        self.assertGreater(min(kinds.count(True), kinds.count(False)), 60)

    def test_one_cycle_of_jumps_on_each_cycle(self):
        """Where there is no conflict cycle, one_cycle tells so of each cycle of calls."""
        source, told = random.Random(1035), []
        for _ in range(500):
            program = naive.random_program(source, 3, 2)
            sets = naive.random_log(source, program, 4, 30)[1]
            bodies = naive.bodies_of(program, sets)
            cycles = [naive.random_cycle(source, program.calls, 10) for _ in range(8)]
            right = [one_cycle(bodies, cycle) for cycle in cycles if cycle is not None]
            if conflict_cycle(bodies) is None:
                self.assertTrue(all(right))
            elif right:
                told.append(all(right))
        self.assertIn(False, told)

    def test_self_calls(self):
        self.assertEqual(conflict_cycle(Bodies(Program([[0]]), [[(0,)]])), [(0, (0,))])
        self.check_cycle(Program([[0]]), [set(naive.chain(50))])
        self.assertIsNone(conflict_cycle(Bodies(Program([[0, 1], [0]]))))

    def test_large_bodies(self):
        for lengths in ((1000, 1000), (1, 1999), (999, 1001), (500, 1500)):
            bodies = Bodies(PAIR, [naive.chain(length) for length in lengths])
            cycle = conflict_cycle(bodies)
            self.assertEqual(len(set(cycle)), len(cycle))
            for (function, path), following in list(zip(cycle, cycle[1:] + cycle[:1]))[-50:]:
                self.assertTrue(following in next_conflicts(bodies, function, path))
