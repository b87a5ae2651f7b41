import random

from ringstays.bodies import Bodies
from ringstays.errors import InvalidComponent, TooMany
from ringstays.groups import components, least_groups, needed_originals, too_small, within
from ringstays.keeping import is_reachable_kept
from ringstays.programs import Program, complete, names, ranked
from tests import naive
from tests.cases import NO_INTEGERS, NO_LISTS, Case
from tests.test_keeping import groups_of
from tests.test_reaching import mixed

PAIR, LOOP = Program([[1], [0]]), Program([[0, 0]])
ASKED = [least_groups, too_small, needed_originals]


class Examples(Case):
    def test_examples(self):
        bodies = Bodies(PAIR, [[(0,)], [(0,)]])
        self.assertEqual([least_groups(bodies), too_small(bodies), needed_originals(bodies)], [[[0], [1]], [[]], []])
        more = Bodies(Program([[1, 2], [0], [2], []]), [[(0,), (1,)], [(0,), (0, 1)], [], []])
        self.assertEqual([components(more.program), within(more, [0, 1]).inlined],
                         [[[0, 1], [2]], (((0,),), ((0,),), (), ())])


class Groups(Case):
    def check(self, program, sets):
        bodies, groups = naive.bodies_of(program, sets), groups_of(program)
        enough = [group for group in groups if not any(naive.folded(program.calls, sets, group))]
        lacking = [group for group in groups if group not in enough]
        least = sorted(group for group in enough if not any(set(other) < set(group) for other in enough))
        small = sorted(group for group in lacking if not any(set(group) < set(other) for other in lacking))
        self.assertEqual([least_groups(bodies), too_small(bodies)], [least, small])
        self.assertEqual(needed_originals(bodies), sorted(set.intersection(*map(set, least))))
        self.assertTrue(all(is_reachable_kept(bodies, group) for group in least))
        # A group that holds an enough group is enough.
        for group in groups:
            self.assertIs(group in enough, any(set(other) <= set(group) for other in least))
        return len(least), len(small), len(needed_originals(bodies))

    def test_samples(self):
        kinds = [self.check(program, sets) for program, sets in mixed(113, 400)]
        for at in range(3):
            self.assertGreater(len({kind[at] for kind in kinds}), 2)

    def test_more_functions(self):
        source = random.Random(1131)
        for _ in range(6):
            program = Program([[source.randrange(6) for _ in range(2)] for _ in range(6)])
            self.check(program, naive.sets_of(naive.random_bodies(source, program, 4)))

    def test_reachable_bodies(self):
        """Point [116]."""
        for bodies in (Bodies(PAIR), Bodies(PAIR, [[(0,), (0, 0)], [(0,)]]), Bodies(Program([[], [0]]), [[], [(0,)]])):
            self.assertEqual([least_groups(bodies), too_small(bodies), needed_originals(bodies)], [[[]], [], []])

    def test_needed_ones(self):
        bodies = Bodies(LOOP, [[(0,)]])
        self.assertEqual([least_groups(bodies), too_small(bodies), needed_originals(bodies)], [[[0]], [[]], [0]])
        two = Bodies(Program([[0], [1]]), [[(0,)], [(0,)]])
        self.assertEqual([least_groups(two), too_small(two), needed_originals(two)], [[[0, 1]], [[0], [1]], [0, 1]])
        # Some group of two is least, and one of one, too.
        for program, sets in mixed(1132, 1500):
            if len({len(group) for group in least_groups(naive.bodies_of(program, sets))}) > 1:
                self.check(program, sets)
                return
        self.fail("no such bodies were met")

    def test_eight_functions(self):
        program = Program([[1, 0], [2, 1], [3, 2], [4, 3], [5, 4], [6, 5], [7, 6], [0, 7]])
        bodies = Bodies(program, [[(0,), (1,)]] * 8)
        self.assertEqual(least_groups(bodies), [list(range(8))])
        self.assertEqual(len(too_small(bodies)), 8)
        self.assertEqual(needed_originals(bodies), list(range(8)))
        ring = Bodies(Program([[1], [2], [3], [4], [5], [6], [7], [0]]), [[(0,)]] * 8)
        self.assertEqual(least_groups(ring), [[function] for function in range(8)])
        self.assertEqual(too_small(ring), [[]])

    def test_too_many(self):
        for ask in ASKED:
            ask(Bodies(LOOP, [naive.chain(200)]))
            self.raises(TooMany, {"count": 201}, ask, Bodies(LOOP, [naive.chain(201)]))
            self.raises(TooMany, {"count": 201}, ask, Bodies(PAIR, [naive.chain(101), naive.chain(100)]))
            ask(Bodies(PAIR, [naive.chain(100), naive.chain(100)]))
        self.assertEqual(least_groups(Bodies(LOOP, [naive.chain(200)])), [[0]])

    def test_new_lists(self):
        bodies = Bodies(PAIR, [[(0,)], [(0,)]])
        for ask in (least_groups, too_small):
            kept = ask(bodies=bodies)
            found = ask(bodies)
            found[0].append(7)
            found.clear()
            self.assertEqual(ask(bodies), kept)
        needed_originals(bodies=bodies).append(3)
        self.assertEqual(needed_originals(bodies), [])


class Components(Case):
    def test_by_the_words(self):
        source = random.Random(114)
        for _ in range(400):
            program = naive.random_program(source, 8, 2)
            count = len(program)
            reached = [set(row) for row in program.calls]
            for _ in range(count):
                reached = [row.union(*[reached[function] for function in row]) for row in reached]
            found = {tuple(other for other in range(count) if other in reached[one] and one in reached[other])
                     for one in range(count)}
            self.assertEqual(components(program), sorted(list(group) for group in found if group))

    def test_some(self):
        self.assertEqual(components(Program([[]])), [])
        self.assertEqual(components(Program([[0]])), [[0]])
        self.assertEqual(components(ranked([3, 1, 0, 2])), [])
        self.assertEqual(components(program=complete(8)), [list(range(8))])
        self.assertEqual(components(Program([[1], [1], [3], [2, 0]])), [[1], [2, 3]])
        self.assertEqual(components(Program([[3], [2], [1], [0, 1]])), [[0, 3], [1, 2]])
        found = components(Program([[0]]))
        found[0].clear()
        self.assertEqual(components(Program([[0]])), [[0]])

    def test_within_by_the_words(self):
        for program, sets in mixed(1141, 300):
            bodies = naive.bodies_of(program, sets)
            for component in components(program):
                rows = [[path for path in row if function in component
                         and set(names(program, function, path)) <= set(component)]
                        for function, row in enumerate(bodies.inlined)]
                self.assertEqual(within(bodies, component), Bodies(program, rows))

    def test_enough_exactly_if_enough_within_each_component(self):
        checked, split = 0, 0
        for program, sets in mixed(1142, 400):
            bodies, parts = naive.bodies_of(program, sets), components(program)
            for group in groups_of(program):
                whole = is_reachable_kept(bodies, group)
                told = [is_reachable_kept(within(bodies, component), group) for component in parts]
                self.assertIs(whole, all(told))
                checked += not whole
                split += len(set(told)) == 2
        self.assertGreater(min(checked, split), 30)

    def test_wrong_components(self):
        bodies = Bodies(Program([[1, 2], [0], [2], []]), [[(0,), (1,)], [(0,), (0, 1)], [], []])
        wrong = NO_LISTS + [[], [0], [1], [1, 0], [0, 1, 2], [0, 1, 1], [3], [4], [-1], [[0, 1]]]
        wrong += [[value] for value in NO_INTEGERS] + [[0, value] for value in NO_INTEGERS]
        for component in wrong:
            self.gives(InvalidComponent, component, within, bodies, component)
        self.assertEqual(within(bodies=bodies, component=(0, 1)), within(bodies, [0, 1]))
        self.assertEqual(within(bodies, [2]), Bodies(bodies.program))
        two = Bodies(Program([[1], [1]]), [[(0,)], [(0,)]])
        for component in ([True], [0], []):
            self.gives(InvalidComponent, component, within, two, component)
        self.assertEqual(within(two, [1]).inlined, ((), ((0,),)))
