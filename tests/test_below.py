import random

from ringstays.below import below_defect, is_from_below, log_from_below
from ringstays.bodies import Bodies, open_paths
from ringstays.errors import NotFromBelow
from ringstays.logs import apply_log
from ringstays.programs import Program
from ringstays.reaching import is_reachable, is_witness
from ringstays.steps import inlinable, inline_call
from tests import naive, naive_bodies
from tests.cases import NO_LISTS, Case
from tests.test_logs import WRONG_LOGS
from tests.test_reaching import grown, mixed

LINE = Program([[1], [2], []])
SMALL = [[[1], [2], []], [[1], [1], []], [[1, 1], [0]], [[1, 2], [0, 2], []], [[1], [2], [1]], [[1, 0], [2], []],
         [[1, 1], []], [[2], [2], [0, 1]], [[1], [0], [0]], [[0, 1], [1]], [[1], [], [1, 0]]]


def below(calls):
    """For each function the functions below it: paths with fewer calls than there are functions tell."""
    led = [{naive.end(calls, function, path) for path in naive_bodies.all_paths(calls, function, len(calls))}
           for function in range(len(calls))]
    return [{other for other in led[function] if function not in led[other]} for function in range(len(calls))]


def blocks(calls, sets, function):
    """The paths at which blocks begin, by the words of point [153]."""
    under = below(calls)[function]
    found = {path for path in sets[function] if naive.end(calls, function, path) in under
             and not any(naive.end(calls, function, path[:length]) in under for length in range(len(path)))}
    rest = list(found)
    while rest:
        path = rest.pop()
        reached = naive.end(calls, function, path)
        for more in naive.open_paths(calls, reached, sets[reached]):
            if path + more in sets[function] and path + more not in found:
                found.add(path + more)
                rest.append(path + more)
    return sorted(found)


def first_broken(calls, sets):
    """The least function and path of a block that is not whole."""
    for function in range(len(calls)):
        for path in blocks(calls, sets, function):
            if not sets[naive.end(calls, function, path)] <= naive.copy(sets[function], path):
                return "block", function, path


def is_log_from_below(program, sets, log):
    under = below(program.calls)
    made = [set() for _ in program.calls]
    for at, (function, path, mode) in enumerate(log):
        fits = path in naive.open_paths(program.calls, function, made[function]) and mode == "now"
        if not fits or naive.end(program.calls, function, path) == function:
            return False
        if any(function in under[other] for other, _, _ in log[:at]):
            return False
        naive.inline(program.calls, made, function, path, mode)
    return made == [set(paths) for paths in sets]


def made_from_below(calls, most):
    """All bodies of at most so many paths that logs from below make."""
    under = below(calls)
    found, rest = set(), [(tuple(frozenset() for _ in calls), frozenset())]
    while rest:
        state = rest.pop()
        if state in found:
            continue
        found.add(state)
        sets, started = state
        for function, path, mode in naive_bodies.steps_from(calls, sets, ()):
            if any(function in under[other] for other in started):
                continue
            behind = [set(paths) for paths in sets]
            naive.inline(calls, behind, function, path, mode)
            if sum(map(len, behind)) <= most:
                rest.append((tuple(map(frozenset, behind)), started | {function}))
    return {sets for sets, _ in found}


def random_from_below(source, program, length):
    """A log from below."""
    under, made, log = below(program.calls), [set() for _ in program.calls], []
    for _ in range(length):
        steps = [step for step in naive_bodies.steps_from(program.calls, made, ())
                 if not any(step[0] in under[other] for other, _, _ in log)]
        low = [step for step in steps if not any(other[0] in under[step[0]] for other in steps)]
        steps = low if low and source.random() < 0.6 else steps
        if not steps or sum(map(len, made)) > 60:
            break
        log.append(source.choice(steps))
        naive.inline(program.calls, made, *log[-1])
    return log, made


class Examples(Case):
    def test_examples(self):
        self.assertEqual(below_defect(Bodies(LINE, [[(0,)], [(0,)], []])), ("block", 0, (0,)))
        bodies = Bodies(LINE, [[(0,), (0, 0)], [(0,)], []])
        self.assertEqual([log_from_below(bodies),
                          is_from_below(bodies, [(0, (0,), "now"), (0, (0, 0), "now"), (1, (0,), "now")])],
                         [[(1, (0,), "now"), (0, (0,), "now")], False])


class FromBelow(Case):
    def check(self, program, sets):
        bodies, calls = naive.bodies_of(program, sets), program.calls
        defect = below_defect(bodies)
        self.assertEqual(below_defect(Bodies(program, bodies.inlined)), defect)
        if any(naive.folded(calls, sets)):
            self.assertEqual([type(defect), len(defect), defect[0]], [tuple, 2, "unreachable"])
            self.assertIs(is_witness(bodies, defect[1]), True)
        else:
            self.assertEqual(defect, first_broken(calls, sets))
        if defect is not None:
            self.raises(NotFromBelow, {"defect": defect}, log_from_below, bodies)
            return defect[0]
        log = log_from_below(bodies)
        self.assertIs(type(log), list)
        self.assertTrue(is_log_from_below(program, sets, log))
        self.assertIs(is_from_below(bodies, log), True)
        self.assertEqual(log_from_below(Bodies(program, bodies.inlined)), log)
        return "made"

    def test_samples(self):
        source, told = random.Random(153), []
        for program, sets in mixed(1530, 700, 4):
            told.append(self.check(program, sets))
        for _ in range(700):
            program = naive.random_program(source, 5, 3)
            log, made = random_from_below(source, program, source.randint(0, 8))
            bodies = naive.bodies_of(program, made)
            self.assertIs(is_from_below(bodies, log), True)
            self.assertEqual(self.check(program, made), "made")
            told.append(self.check(program, naive.sets_of(grown(source, program, 6, 60))))
        self.assertGreater(min(map(told.count, ("made", "block", "unreachable"))), 60)

    def test_a_log_exactly_if_there_is_no_defect(self):
        told = []
        for calls in SMALL:
            most = 5 if len(calls) == 2 else 4
            made = made_from_below(calls, most)
            for sets in naive_bodies.all_bodies(calls, most):
                told.append(self.check(Program(calls), sets))
                self.assertIs(told[-1] == "made", sets in made, (calls, sets))
        self.assertGreater(min(map(told.count, ("made", "block", "unreachable"))), 10)

    def test_judge(self):
        """Logs that make the bodies, in any order of their steps."""
        source, told = random.Random(1531), []
        for _ in range(1500):
            program = naive.random_program(source, 4, 2)
            log, made = naive.random_log(source, program, source.randint(1, 5), 40)
            if source.random() < 0.8:
                log = [step for step in log if step[2] == "now"]
                made = naive.skipped(program.calls, [()] * len(program), log, [])[0]
            bodies = naive.bodies_of(program, made)
            told.append(is_from_below(bodies, log))
            self.assertIs(told[-1], is_log_from_below(program, made, log))
        self.assertGreater(min(told.count(True), told.count(False)), 200)

    def test_below_above_and_beside_a_cycle(self):
        # 1 and 2 call each other; 0 is above them, 3 below, and 4 beside them.
        program = Program([[1, 4], [2], [1, 3], [], [3]])
        log = [(2, (0,), "now"), (2, (1,), "now"), (1, (0,), "now"), (4, (0,), "now"), (0, (0,), "now"),
               (0, (1,), "now")]
        bodies = apply_log(Bodies(program), log)
        self.assertEqual(self.check(program, naive.sets_of(bodies)), "made")
        self.assertIs(is_from_below(bodies, log), True)
        # A step of 4 may stand anywhere ahead of 0, and one of 2 behind one of 1.
        for order, right in (([3, 0, 1, 2, 4, 5], True), ([0, 1, 2, 4, 3, 5], False), ([1, 0, 2, 3, 4, 5], True)):
            self.assertIs(is_from_below(bodies, [log[at] for at in order]), right)
        early = apply_log(Bodies(program), [log[4], log[0]])
        self.assertEqual(below_defect(early), ("block", 0, (0,)) if early.inlined[1] else None)
        self.assertIs(is_from_below(early, [log[4], log[0]]), False)

    def test_self_calls_above_others(self):
        program = Program([[0, 1], [1, 2], []])
        for sets in ([{(1,)}, set(), set()], [{(1,), (1, 1)}, {(1,)}, set()],
                     [{(1,), (1, 1), (1, 0), (1, 0, 1)}, {(1,)}, set()]):
            self.assertEqual(self.check(program, sets), "made")
        self.assertEqual(self.check(program, [{(0,)}, set(), set()]), "unreachable")
        self.assertEqual(self.check(program, [{(1,)}, {(1,)}, set()]), "block")
        self.assertEqual(self.check(program, [{(1,), (1, 1), (1, 0)}, {(1,)}, set()]), "block")
        # Behind the first block there is one more, of the function's own callee.
        log = [(1, (1,), "now"), (0, (1,), "now"), (0, (1, 0), "now")]
        self.assertIs(is_from_below(apply_log(Bodies(program), log), log), True)

    def test_blocks_within_blocks(self):
        program = Program([[1], [2], [3], []])
        whole = [set(naive.chain(3)), set(naive.chain(2)), set(naive.chain(1)), set()]
        self.assertEqual(self.check(program, whole), "made")
        self.assertEqual(log_from_below(naive.bodies_of(program, whole))[-1][0], 0)
        # The body of 1 has the block of 2 ahead of the step of 2, so it is not whole.
        self.assertEqual(below_defect(naive.bodies_of(program, [set(), {(0,)}, {(0,)}, set()])), ("block", 1, (0,)))
        broken = [{(0,), (0, 0)}, set(), {(0,)}, set()]
        self.assertEqual(below_defect(naive.bodies_of(program, broken)), ("block", 0, (0, 0)))
        self.assertIs(is_reachable(naive.bodies_of(program, broken)), True)

    def test_large_bodies(self):
        source = random.Random(1532)
        program = Program([[1, 0], [0, 1], [0, 2]])
        made = Bodies(program)
        while made.size() < 500:
            made = inline_call(made, *source.choice([step for step in inlinable(made) if step[0] != 2]))
        made = inline_call(made, 2, (0,))
        log = log_from_below(made)
        self.assertTrue(apply_log(Bodies(program), log) == made and is_from_below(made, log))
        self.assertEqual(below_defect(inline_call(made, 2, open_paths(made, 2)[0])), None)
        line = Program([[1] * 8, [2] * 8, [3] * 8, []])
        log = [(function, (call,), "now") for function in (2, 1, 0) for call in range(8)]
        made = apply_log(Bodies(line), log)
        self.assertEqual(self.check(line, naive.sets_of(made)), "made")
        self.assertIs(is_from_below(made, log), True)

    def test_wrong_values(self):
        bodies = Bodies(LINE, [[], [(0,)], []])
        self.assertIs(is_from_below(bodies=bodies, value=((1, (0,), "now"),)), True)
        wrong = WRONG_LOGS + NO_LISTS + [[], [(1, (0,), "first")], [(1, (0,), "now")] * 2, [(7, (0,), "now")],
                                         [(0, (0,), "now")], [(1, (1,), "now")], [[1, (0,), "now"]]]
        for value in wrong:
            self.assertIs(is_from_below(bodies, value), False)
        self.assertEqual([is_from_below(Bodies(LINE), value) for value in ([], (), None)], [True, True, False])

    def test_kinds_of_arguments(self):
        bodies = Bodies(LINE, [[(0,), (0, 0)], [(0,)], []])
        self.assertIsNone(below_defect(bodies=bodies))
        log = log_from_below(bodies=bodies)
        kept = list(log)
        log.clear()
        self.assertEqual([log_from_below(bodies), log_from_below(Bodies(LINE))], [kept, []])
        self.assertEqual(bodies, Bodies(LINE, [[(0,), (0, 0)], [(0,)], []]))
