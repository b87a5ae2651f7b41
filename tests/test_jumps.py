import random

from ringstays.bodies import Bodies
from ringstays.errors import InvalidCycle
from ringstays.jumps import jump_cycles, jumps, one_cycle
from ringstays.programs import Program
from tests import naive
from tests.cases import NO_TUPLES, Case

PAIR, LOOP = Program([[1], [0]]), Program([[0, 0]])
AROUND = (0, (0, 0))
ASKED = [jumps, jump_cycles, one_cycle]


def cycles_of(lengths):
    """All cycles of jumps: the places that some number of jumps leads from itself back to it."""
    count, found = len(lengths), set()
    for start in range(count):
        place, total, places = start, 0, []
        for _ in range(count):
            places.append(place)
            total += lengths[place]
            place = (place + lengths[place]) % count
            if place == start:
                found.add((tuple(sorted(places)), total // count))
                break
    return sorted(found)


class Examples(Case):
    def test_examples(self):
        good = Bodies(PAIR, [[(0,), (0, 0)], [(0,)]])
        self.assertEqual([jumps(good, AROUND), jump_cycles(good, AROUND)], [[3, 2], [((1,), 1)]])
        bad = Bodies(PAIR, [[(0,)], [(0,)]])
        self.assertEqual([jump_cycles(bad, AROUND), one_cycle(bad, AROUND)], [[((0,), 1), ((1,), 1)], False])


class Errors(Case):
    def test_invalid_cycles(self):
        bodies = Bodies(PAIR)
        for cycle in NO_TUPLES + [(), (0, ()), (0, (0,)), (0, (0, 0, 0, 0)), (0, [0, 0]), [0, (0, 0)], (2, (0, 0)),
                                  (False, (0, 0)), (0, (0, False)), (0, (0, 1))]:
            for ask in ASKED:
                self.gives(InvalidCycle, cycle, ask, bodies, cycle)


class Jumps(Case):
    def check(self, bodies, cycle):
        lengths = naive.jumps(bodies.program.calls, naive.sets_of(bodies), cycle)
        self.assertEqual(jumps(bodies, cycle), lengths)
        found = cycles_of(lengths)
        self.assertEqual(jump_cycles(bodies, cycle), found)
        self.assertIs(one_cycle(bodies, cycle), len(found) == 1 and found[0][1] == 1)
        return len(found), max(rounds for _, rounds in found)

    def test_random_bodies(self):
        source, kinds = random.Random(102), set()
        for _ in range(1500):
            program = naive.random_program(source, 3, 2)
            cycle = naive.random_cycle(source, program.calls, 9)
            if cycle is not None:
                kinds.add(self.check(naive.random_bodies(source, program, 12), cycle))
        self.assertTrue({(1, 1), (2, 1), (1, 2), (3, 1), (2, 2)} <= kinds, kinds)

    def test_deep_bodies(self):
        source = random.Random(103)
        for _ in range(60):
            program = naive.random_program(source, 2, 2)
            cycle = naive.random_cycle(source, program.calls, 7)
            if cycle is None:
                continue
            function, path = cycle
            # Far along the cycle, and aside of it here and there.
            rows = [set() for _ in program.calls]
            for _ in range(3):
                at = source.randrange(len(path))
                along = path[at:] + path * 12
                for length in range(1, source.randint(2, 40)):
                    rows[naive.end(program.calls, function, path[:at])].add(along[:length])
            for paths in rows:
                for _ in range(5):
                    paths.update(naive.open_paths(program.calls, rows.index(paths), paths)[:1])
            self.check(naive.bodies_of(program, rows), cycle)

    def test_self_calls(self):
        self.assertEqual(jumps(Bodies(LOOP), (0, (0,))), [1])
        bodies = Bodies(LOOP, [[(0,), (0, 0), (0, 1), (1,)]])
        self.assertEqual(jumps(bodies, (0, (0,))), [3])
        self.assertEqual(jump_cycles(bodies, (0, (0,))), [((0,), 3)])
        self.assertIs(one_cycle(bodies, (0, (0,))), False)
        self.assertEqual([jumps(bodies, (0, (0, 1))), jumps(bodies, (0, (1, 1, 0)))], [[3, 2], [2, 2, 3]])
        self.assertIs(one_cycle(Bodies(LOOP), (0, (1,))), True)

    def test_behind_many_calls(self):
        long = Bodies(LOOP, [naive.chain(2000)])
        self.assertEqual(jumps(long, (0, (0,))), [2001])
        self.assertEqual(jump_cycles(long, (0, (0,))), [((0,), 2001)])
        self.assertEqual(jumps(long, (0, (0,) * 5 + (1,))), [6, 5, 4, 3, 2, 1])
        self.assertEqual(jump_cycles(long, (0, (0,) * 5 + (1,))), [((0,), 1)])
        pair = Bodies(PAIR, [naive.chain(1500), naive.chain(500)])
        self.assertEqual([jumps(pair, AROUND), jumps(pair, (1, (0, 0)))], [[1501, 501], [501, 1501]])
        self.assertEqual(jump_cycles(pair, AROUND), [((0, 1), 1001)])

    def test_cycles_of_many_calls(self):
        count = 2100000
        long = Bodies(LOOP, [naive.chain(2000)])
        cycle = (0, (0,) * (count - 1) + (1,))
        lengths = jumps(long, cycle)
        self.assertEqual(len(lengths), count)
        self.assertEqual(set(lengths[:count - 2000]), {2001})
        self.assertEqual(lengths[count - 2000:], list(range(2000, 0, -1)))
        self.assertIs(one_cycle(long, cycle), True)
        [(places, rounds)] = jump_cycles(Bodies(LOOP), cycle)
        self.assertEqual([places, rounds], [tuple(range(count)), 1])
        source = random.Random(104)
        path = tuple(source.randrange(2) for _ in range(30000)) + (0, 1, 1)
        self.check_long(Bodies(LOOP, [naive.chain(30) + [(1,), (1, 0), (1, 1), (1, 1, 0)]]), (0, path))

    def check_long(self, bodies, cycle):
        lengths = naive.jumps([[0, 0]], naive.sets_of(bodies), (0, cycle[1][:300]))
        self.assertEqual(jumps(bodies, cycle)[:250], lengths[:250])
        found = jump_cycles(bodies, cycle)
        self.assertEqual(sum(rounds for _, rounds in found) >= 1, True)

    def test_kinds_of_arguments(self):
        bodies = Bodies(PAIR, [[(0,)], []])
        self.assertEqual(jumps(bodies=bodies, cycle=AROUND), [2, 1])
        self.assertEqual(jump_cycles(bodies=bodies, cycle=AROUND), [((0,), 1)])
        self.assertIs(one_cycle(bodies=bodies, cycle=AROUND), True)
        for ask in (jumps, jump_cycles):
            ask(bodies, AROUND).clear()
            self.assertTrue(ask(bodies, AROUND))
        self.assertEqual(bodies, Bodies(PAIR, [[(0,)], []]))
