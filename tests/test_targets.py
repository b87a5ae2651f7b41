import random

from ringstays.bodies import Bodies, is_inlined
from ringstays.errors import BlockedTarget, InvalidFunction, InvalidTargets, TooMany
from ringstays.logs import apply_log
from ringstays.programs import Program, complete
from ringstays.targets import blocked_target, reach_targets
from tests import naive, naive_bodies
from tests.cases import HUGE, NO_INTEGERS, NO_LISTS, NO_TUPLES, Case

PAIR, LOOP = Program([[1], [0]]), Program([[0, 0]])
LATER = Bodies(PAIR, [[(0,)], []])


def around(count):
    return (0,) * count


WRONG_TARGETS = NO_LISTS + [[], [(0,)] * 7, [()], [(0,), ()], [(1,)], [(0,), (0, 1)], [(-1,)], [(HUGE,)], [[0]],
                            [[(0,)]],
                            (0,), [around(13)], [around(12), (0,)], [around(7), around(6)], [(0,), around(2001)]]
WRONG_TARGETS += [[value] for value in NO_TUPLES] + [[(value,)] for value in NO_INTEGERS]


def blocked(calls, sets, function, path):
    """By the words of point [151]."""
    for length in range(1, len(path) + 1):
        if path[:length] not in sets[function]:
            return naive.end(calls, function, path[:length]) == function
    return False


def random_targets(source, calls, function, most):
    """Some paths of a function of at most so many calls together, some of which begin alike."""
    found = []
    for _ in range(source.randint(1, 4)):
        path = source.choice(found) if found and source.random() < 0.5 else ()
        for _ in range(source.randint(0, 5)):
            row = calls[naive.end(calls, function, path)]
            if row:
                path += (source.randrange(len(row)),)
        if path and sum(map(len, found)) + len(path) <= most:
            found.append(path)
    return found


def samples(seed, count, most=8):
    source = random.Random(seed)
    for _ in range(count):
        program = naive.random_program(source, 3, 3)
        sets = naive.sets_of(naive.random_bodies(source, program, 3))
        function = source.randrange(len(program))
        targets = random_targets(source, program.calls, function, most)
        if targets and sum(map(len, sets)) <= 8:
            yield program, sets, function, targets


class Examples(Case):
    def test_examples(self):
        self.assertEqual([blocked_target(Bodies(PAIR), 0, [(0, 0)]), blocked_target(LATER, 0, [(0,), (0, 0)])],
                         [None, (0, 0)])
        log = reach_targets(Bodies(PAIR), 0, [(0, 0)])
        self.assertIs(is_inlined(apply_log(Bodies(PAIR), log), 0, (0, 0)), True)


class Errors(Case):
    def test_wrong_functions(self):
        for function in NO_INTEGERS + [-1, 2, HUGE]:
            for ask in (blocked_target, reach_targets):
                self.gives(InvalidFunction, function, ask, Bodies(PAIR), function, None)

    def test_wrong_targets(self):
        for paths in WRONG_TARGETS:
            for ask in (blocked_target, reach_targets):
                self.gives(InvalidTargets, paths, ask, Bodies(PAIR), 0, paths)
                self.gives(InvalidTargets, paths, ask, LATER, 0, paths)
        self.assertIsNone(blocked_target(Bodies(PAIR), 0, [around(12)]))
        self.assertIsNone(blocked_target(Bodies(PAIR), 0, [around(2)] * 6))

    def test_blocked(self):
        for paths in ([(0, 0)], [(0,), (0, 0), (0, 0, 0)], [(0, 0)] * 6):
            self.raises(BlockedTarget, {"path": (0, 0)}, reach_targets, LATER, 0, paths)
        # Ahead of the numbers of inlined paths and of calls.
        large = Bodies(Program([[1, 0], [0]]), [[(0,)], naive.chain(8)])
        self.raises(BlockedTarget, {"path": (1,)}, reach_targets, large, 0, [(0,), (1,)])
        self.raises(BlockedTarget, {"path": (0, 0) + around(9)}, reach_targets, large, 0, [(0, 0) + around(9)])

    def test_too_many(self):
        program = Program([[1], [0]])
        for eight, nine in (([4, 4], [4, 5]), ([8, 0], [0, 9])):
            made = Bodies(program, [naive.chain(length) for length in eight])
            large = Bodies(program, [naive.chain(length) for length in nine])
            self.assertIs(is_inlined(apply_log(made, reach_targets(made, 1, [(0,)])), 1, (0,)), True)
            self.raises(TooMany, {"count": 9}, reach_targets, large, 1, [(0,)])
            self.raises(TooMany, {"count": 9}, reach_targets, large, 0, [around(10)])
        inlined = Bodies(program, [naive.chain(9), naive.chain(3)])
        self.raises(TooMany, {"count": 12}, reach_targets, inlined, 0, [(0,), (0, 0)])
        self.raises(TooMany, {"count": 12}, reach_targets, inlined, 0, [around(5), around(4)])
        less = Bodies(program, [naive.chain(6), []])
        self.raises(TooMany, {"count": 9}, reach_targets, less, 0, [around(5), around(4)])
        self.raises(TooMany, {"count": 12}, reach_targets, less, 0, [around(6), around(6)])
        self.raises(TooMany, {"count": 9}, reach_targets, Bodies(program), 0, [around(9)])
        self.assertEqual(reach_targets(less, 0, [around(5), around(3)]), [])


class Targets(Case):
    def check(self, program, sets, function, targets):
        bodies = naive.bodies_of(program, sets)
        told = [path for path in targets if blocked(program.calls, sets, function, path)]
        self.assertEqual(blocked_target(bodies, function, targets), told[0] if told else None)
        if told:
            self.raises(BlockedTarget, {"path": told[0]}, reach_targets, bodies, function, targets)
            return False
        log = reach_targets(bodies, function, targets)
        self.assertEqual([type(log), {mode for _, _, mode in log} - {"now"}], [list, set()])
        made = apply_log(bodies, log)
        self.assertTrue(all(path in made.inlined[function] for path in targets))
        self.assertEqual(reach_targets(Bodies(program, bodies.inlined), function, tuple(targets)), log)
        return True

    def test_samples(self):
        told = [self.check(*one) for one in samples(151, 6000)]
        self.assertGreater(min(told.count(True), told.count(False)), 1500)

    def test_a_log_exactly_if_none_is_blocked(self):
        """Where one is blocked, no log of some size inlines all."""
        count = 0
        for program, sets, function, targets in samples(1510, 500, 5):
            if sum(map(len, sets)) > 3 or self.check(program, sets, function, targets):
                continue
            start = tuple(map(frozenset, sets))
            for made in naive_bodies.successors(program.calls, sum(map(len, sets)) + 3, start=start):
                self.assertFalse(made[function].issuperset(targets))
            count += 1
        self.assertGreater(count, 100)

    def test_long_ways(self):
        source = random.Random(1511)
        for calls in ([[1], [0]], [[1], [1, 0]], [[1, 1], [0, 1]], [[1, 2], [2, 0], [0, 1]]):
            program = Program(calls)
            for _ in range(300):
                path = ()
                while len(path) < 8:
                    path += (source.randrange(len(calls[naive.end(calls, 0, path)])),)
                sets = naive.sets_of(naive.random_bodies(source, program, 4))
                if sum(map(len, sets)) <= 8:
                    self.check(program, sets, 0, [path])

    def test_many_paths_ahead_and_on_the_way(self):
        # Eight paths that no target takes are copied again and again.
        program = complete(2)
        for count in range(9):
            sets = [{(0,) * length for length in range(1, count + 1)},
                    {(1,) * length for length in range(1, 9 - count)}]
            for path in ((1, 0) * 4, (1, 1, 0, 0, 1, 0, 1, 0), (1,) * 8):
                self.check(program, sets, 0, [path])

    def test_targets_that_begin_alike(self):
        program = Program([[1], [0, 1, 2], [0, 1]])
        for targets in ([(0, 0, 0), (0, 2, 0)], [(0, 0), (0, 1, 0), (0, 2, 0)], [(0, 2, 0, 0), (0, 2, 1, 0)],
                        [(0,), (0, 0), (0, 0), (0, 0, 0)], [(0, 1, 1, 0), (0, 1, 0, 0)], [(0, 0, 0), (0, 0), (0,)]):
            self.assertIs(self.check(program, [set(), set(), set()], 0, targets), True)

    def test_bodies_need_not_be_reachable(self):
        bad = [{(0,)}, {(0,)}]
        self.assertIs(self.check(PAIR, bad, 0, [(0,)]), True)
        self.assertIs(self.check(PAIR, bad, 0, [(0, 0)]), False)
        self.assertIs(self.check(PAIR, [{(0,), (0, 0)}, {(0,)}], 0, [(0, 0, 0)]), True)
        self.assertIs(self.check(LOOP, [set()], 0, [(0,)]), False)
        self.assertIs(self.check(LOOP, [{(0,)}], 0, [(0,)]), True)

    def test_kinds_of_arguments(self):
        self.assertIsNone(blocked_target(bodies=LATER, function=0, paths=((0,),)))
        log = reach_targets(bodies=LATER, function=1, paths=((0, 0, 0),))
        kept = list(log)
        self.assertGreater(len(log), 0)
        log.clear()
        paths = [(0, 0, 0)]
        self.assertEqual([reach_targets(LATER, 1, paths), paths], [kept, [(0, 0, 0)]])
        self.assertEqual(LATER, Bodies(PAIR, [[(0,)], []]))
