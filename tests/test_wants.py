import random
from itertools import combinations, product

from ringstays.bodies import Bodies
from ringstays.errors import InvalidGroup, InvalidWants, TooMany, UnmetWants
from ringstays.logs import apply_log
from ringstays.programs import Program, complete
from ringstays.wants import ahead, meet_wants, wants_defect
from tests import naive, naive_bodies
from tests.cases import HUGE, NO_INTEGERS, NO_LISTS, NO_TUPLES, Case
from tests.test_keeping import WRONG_GROUPS, groups_of

PAIR = Program([[1], [0]])
BOTH = [[(0, 0)], [(0, 0)]]
WRONG_WANTS = NO_LISTS + [[], [[]], [[], [], []], [[(0,), (0,)], []], [[()], []], [[(1,)], []], [[(0, 1)], []],
                          [[(0, 0, 0)], []], [[(-1,)], []], [[(HUGE,)], []], [[[0]], []], [[], [(0, 0), (0,), (0, 0)]],
                          [(0,), []], [[], (0, 0)]]
WRONG_WANTS += [[[], value] for value in NO_LISTS] + [[[value], []] for value in NO_TUPLES]
WRONG_WANTS += [[[(value,)], []] for value in NO_INTEGERS] + [[[(0, value)], []] for value in NO_INTEGERS]


def self_defect(calls, wants, group):
    for function, paths in enumerate(wants):
        for path in paths:
            if function not in group and calls[function][path[0]] == function:
                return "self", function, path


def all_ahead(calls, wants, group):
    """By the words of point [152]."""
    return sorted(((calls[f][path[0]], path[1]), (f, path[0])) for f, paths in enumerate(wants) for path in paths
                  if f not in group and len(path) == 2 and naive.end(calls, f, path) == f)


def has_cycle(items):
    """Whether some of the pairs go round: those that nothing leads on from are struck, again and again."""
    while True:
        left = [item for item in items if any(item[1] == other[0] for other in items)]
        if len(left) == len(items):
            return len(items) > 0
        items = left


def short_paths(calls, function):
    return [path for path in naive_bodies.all_paths(calls, function, 2) if path]


def random_wants(source, program, most):
    wants = [[] for _ in program.calls]
    for _ in range(source.randint(0, most)):
        function = source.randrange(len(program))
        left = [path for path in short_paths(program.calls, function) if path not in wants[function]]
        back = [path for path in left if naive.end(program.calls, function, path) == function and len(path) == 2]
        if back and source.random() < 0.7:
            wants[function].append(source.choice(back))
        elif left:
            wants[function].append(source.choice(left))
    return wants


def random_group(source, program):
    return [function for function in range(len(program)) if source.random() < 0.3]


class Examples(Case):
    def test_examples(self):
        self.assertEqual([ahead(PAIR, BOTH, []), ahead(PAIR, BOTH, [0])],
                         [[((0, 0), (1, 0)), ((1, 0), (0, 0))], [((0, 0), (1, 0))]])
        self.assertEqual([wants_defect(PAIR, BOTH, [])[0], wants_defect(PAIR, BOTH, [0])], ["cycle", None])
        self.assertEqual(wants_defect(Program([[0]]), [[(0,)]], []), ("self", 0, (0,)))


class Errors(Case):
    def test_wrong_wants(self):
        for wants in WRONG_WANTS:
            for ask in (ahead, wants_defect, meet_wants):
                self.gives(InvalidWants, wants, ask, PAIR, wants, [])
                self.gives(InvalidWants, wants, ask, PAIR, wants, None)

    def test_wrong_groups(self):
        for group in WRONG_GROUPS:
            for ask in (ahead, wants_defect, meet_wants):
                self.gives(InvalidGroup, group, ask, PAIR, BOTH, group)

    def test_unmet_wants_and_too_many(self):
        program = Program([[1, 1, 1, 0], [0]])
        wants = [[(0,), (1,), (2,), (0, 0)], []]
        log = meet_wants(program, wants, [])
        self.assertTrue({(0,), (1,), (2,), (0, 0)} <= set(apply_log(Bodies(program), log).inlined[0]))
        more = [[(0,), (1,), (2,), (0, 0), (1, 0)], []]
        self.raises(TooMany, {"count": 5}, meet_wants, program, more, [])
        self.raises(TooMany, {"count": 6}, meet_wants, program, [more[0], [(0,)]], [])
        # A defect comes ahead of the number.
        unmet = [more[0] + [(3, 0)], [(0,)]]
        self.raises(UnmetWants, {"defect": ("self", 0, (3, 0))}, meet_wants, program, unmet, [])
        self.raises(TooMany, {"count": 7}, meet_wants, program, unmet, [0])
        self.raises(UnmetWants, {"defect": wants_defect(PAIR, BOTH, [])}, meet_wants, PAIR, BOTH, [])


class Wants(Case):
    def check_cycle(self, defect, items):
        self.assertEqual([type(defect), len(defect), defect[0], type(defect[1])], [tuple, 2, "cycle", list])
        pairs = defect[1]
        self.assertGreater(len(pairs), 0)
        self.assertEqual(len(set(pairs)), len(pairs))
        for item, behind in zip(pairs, pairs[1:] + pairs[:1]):
            self.assertIn(item, items)
            self.assertEqual(item[1], behind[0])

    def check(self, program, wants, group):
        calls = program.calls
        items = all_ahead(calls, wants, group)
        self.assertEqual(ahead(program, wants, group), items)
        defect = wants_defect(program, wants, group)
        self.assertEqual(wants_defect(Program(calls), tuple(map(tuple, wants)), tuple(group)), defect)
        told = self_defect(calls, wants, group)
        if told is not None:
            self.assertEqual(defect, told)
        elif has_cycle(items):
            self.check_cycle(defect, items)
        else:
            self.assertIsNone(defect)
            if sum(map(len, wants)) <= 4:
                self.check_log(program, wants, group)
            return "met"
        self.raises(UnmetWants, {"defect": defect}, meet_wants, program, wants, group)
        return defect[0]

    def check_log(self, program, wants, group):
        log = meet_wants(program, wants, group)
        self.assertIs(type(log), list)
        for function, path, mode in log:
            self.assertTrue(mode == "now" or naive.end(program.calls, function, path) in group)
        made = apply_log(Bodies(program), log)
        for function, paths in enumerate(wants):
            self.assertTrue(set(paths) <= set(made.inlined[function]))
        self.assertEqual(meet_wants(program, tuple(map(tuple, wants)), tuple(group)), log)

    def test_samples(self):
        source = random.Random(152)
        told = []
        for at in range(4000):
            program = naive.random_program(source, 4, 3)
            if at % 2:
                # Functions that call each other several times.
                program = Program([[source.choice((0, 1, 1)) for _ in range(source.randint(1, 3))],
                                   [source.choice((0, 0, 1)) for _ in range(source.randint(1, 3))]])
            group = random_group(source, program)
            told.append(self.check(program, random_wants(source, program, 4), group))
        self.assertGreater(min(map(told.count, ("met", "self", "cycle"))), 100)

    def test_a_log_exactly_if_there_is_no_defect(self):
        """All wants of up to two paths; where there is a defect, no log of some size meets them."""
        told = []
        for calls in ([[1], [0]], [[0, 1], [0]], [[1, 1], [0]], [[1], [2, 0], [0]]):
            program = Program(calls)
            paths = [(function, path) for function in range(len(calls)) for path in short_paths(calls, function)]
            made = {tuple(group): naive_bodies.successors(calls, 4, group) for group in groups_of(program)}
            for count in (1, 2):
                for chosen in combinations(paths, count):
                    wants = [[path for other, path in chosen if other == function] for function in range(len(calls))]
                    for group in groups_of(program):
                        told.append(self.check(program, wants, group))
                        if told[-1] != "met":
                            for sets in made[tuple(group)]:
                                self.assertFalse(all(map(set.issuperset, map(set, sets), wants)))
        self.assertGreater(min(map(told.count, ("met", "self", "cycle"))), 5)

    def test_groups(self):
        around = Program([[1], [2], [0]])
        wants = [[(0,)], [(0, 0)], []]
        self.assertEqual(self.check(around, wants, []), "met")
        mutual = complete(3)
        wants = [[(1, 0)], [(0, 1)], [(2,)]]
        # All that is just enough, and all functions.
        self.assertEqual([self.check(mutual, wants, group) for group in ([], [0], [0, 1], [2], [0, 2], [1, 2],
                                                                         [0, 1, 2])],
                         ["self", "self", "self", "cycle", "met", "met", "met"])
        for wants in product([[], [(0,)], [(0, 0)], [(0, 1)], [(1, 0)]], repeat=2):
            self.assertEqual(self.check(complete(2), list(wants), [0, 1]), "met")

    def test_longer_cycles(self):
        program = Program([[1, 1], [0, 0]])
        wants = [[(0, 0), (1, 1)], [(0, 1), (1, 0)]]
        self.assertEqual(self.check(program, wants, []), "cycle")
        self.assertEqual(len(wants_defect(program, wants, [])[1]), 4)
        self.assertEqual([self.check(program, wants, group) for group in ([0], [1], [0, 1])], ["met"] * 3)
        self.assertEqual(self.check(program, [wants[0], wants[1][:1]], []), "met")

    def test_a_self_call_ahead(self):
        # Call 0 of 0 is a self call, so with 0 kept nothing has to come ahead.
        program = Program([[0, 1], [0]])
        self.assertEqual(ahead(program, [[(0, 0)], []], []), [((0, 0), (0, 0))])
        self.assertEqual(ahead(program, [[(0, 0)], []], [0]), [])
        self.assertEqual(self.check(program, [[(0, 0), (0, 1)], []], [0]), "met")
        self.assertEqual(ahead(program, [[(1, 0)], []], [1]), [((1, 0), (0, 1))])
        self.assertEqual(wants_defect(program, [[(1,), (0, 1), (0,)], []], [1]), ("self", 0, (0, 1)))

    def test_kinds_of_arguments(self):
        self.assertEqual(ahead(program=PAIR, wants=tuple(map(tuple, BOTH)), group=(0,)), [((0, 0), (1, 0))])
        self.assertIsNone(wants_defect(program=PAIR, wants=[[], []], group=()))
        log = meet_wants(program=PAIR, wants=([(0, 0)], ()), group=())
        self.assertEqual(log, [(1, (0,), "now"), (0, (0,), "now")])
        for ask in (ahead, meet_wants):
            kept = list(ask(PAIR, BOTH, [0]))
            ask(PAIR, BOTH, [0]).clear()
            self.assertEqual(ask(PAIR, BOTH, [0]), kept)
        wants_defect(PAIR, BOTH, [])[1].clear()
        self.assertEqual(len(wants_defect(PAIR, BOTH, [])[1]), 2)
        self.assertEqual(BOTH, [[(0, 0)], [(0, 0)]])
        self.assertEqual([ahead(PAIR, [[], []], []), meet_wants(PAIR, [[], []], [])], [[], []])
