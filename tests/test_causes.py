import random

from ringstays.bodies import Bodies
from ringstays.causes import causes, causes_of
from ringstays.errors import InvalidFunction, InvalidLog, InvalidPath, NotInlined, Stopped, TooMany
from ringstays.logs import apply_log
from ringstays.programs import Program
from tests import naive
from tests.cases import HUGE, NO_INTEGERS, NO_TUPLES, Case
from tests.test_logs import WRONG_LOGS

PROGRAM = Program([[2, 1], [2], [1]])
BODIES, LOG = Bodies(PROGRAM), [(1, (0,), "now"), (0, (1,), "now"), (0, (1, 0, 0), "first")]
LOOP = Program([[0]])


def loop_log(count):
    """A log of so many steps, each of which needs all steps ahead of it."""
    return [(0, (0,) * length, "first") for length in range(1, count + 1)]


def samples(seed, count, length=9):
    """Bodies, many of which are not reachable, and logs of both modes that can be done from them."""
    source = random.Random(seed)
    for at in range(count):
        program = naive.random_program(source, 3, 2)
        start = naive.sets_of(naive.random_bodies(source, program, at % 3))
        log, behind = naive.random_log(source, program, source.randint(0, length), 120, start)
        yield naive.bodies_of(program, start), log, behind


class Examples(Case):
    def test_examples(self):
        self.assertEqual([causes(BODIES, LOG), causes_of(BODIES, LOG, 0, (1, 0)), causes_of(BODIES, LOG, 0, (1,))],
                         [[[], [], [0, 1]], [0, 1], [1]])


class Errors(Case):
    def test_wrong_logs(self):
        for log in WRONG_LOGS:
            self.gives(InvalidLog, log, causes, BODIES, log)
            self.gives(InvalidLog, log, causes_of, BODIES, log, None, None)

    def test_stopped(self):
        log = LOG + [(0, (1,), "now")]
        for told in (log, tuple(log), log + LOG):
            self.raises(Stopped, {"at": 3, "reached": apply_log(BODIES, LOG)}, causes, BODIES, told)
            self.raises(Stopped, {"at": 3, "reached": apply_log(BODIES, LOG)}, causes_of, BODIES, told, 9, None)

    def test_too_many(self):
        self.assertEqual(causes(Bodies(LOOP), loop_log(400))[-1], list(range(399)))
        self.assertEqual(causes_of(Bodies(LOOP), loop_log(400), 0, (0,) * 400), list(range(400)))
        for count in (401, 1000):
            self.raises(TooMany, {"count": count}, causes, Bodies(LOOP), loop_log(count))
            self.raises(TooMany, {"count": count}, causes_of, Bodies(LOOP), loop_log(count), None, None)
        # A stop comes ahead of the number of steps, and what is no log ahead of both.
        stopped = loop_log(500) + [(0, (1,), "now")]
        self.raises(Stopped, {"at": 500, "reached": apply_log(Bodies(LOOP), loop_log(500))}, causes, Bodies(LOOP),
                    stopped)
        wrong = stopped + [None]
        self.gives(InvalidLog, wrong, causes, Bodies(LOOP), wrong)

    def test_wrong_functions_and_paths(self):
        for function in NO_INTEGERS + [-1, 3, HUGE]:
            self.gives(InvalidFunction, function, causes_of, BODIES, LOG, function, None)
        for path in NO_TUPLES + [(2,), (0, 1), (-1,), (HUGE,), [0]] + [(value,) for value in NO_INTEGERS]:
            if path != ():
                self.gives(InvalidPath, path, causes_of, BODIES, LOG, 0, path)
        for path in ((0,), (0, 0), (1, 0, 0, 0)):
            self.raises(NotInlined, {"path": path}, causes_of, BODIES, LOG, 0, path)


class Causes(Case):
    def test_samples_by_skipping_each_step_alone(self):
        kinds = set()
        for bodies, log, behind in samples(141, 500):
            calls, start = bodies.program.calls, naive.sets_of(bodies)
            told = [naive.skipped(calls, start, log, [at]) for at in range(len(log))]
            found = causes(bodies, log)
            self.assertEqual(found, [[at for at in range(step) if step not in told[at][1]] for step in range(len(log))])
            for function, paths in enumerate(behind):
                for path in paths:
                    row = [at for at in range(len(log)) if path not in told[at][0][function]]
                    self.assertEqual(causes_of(bodies, log, function, path), row)
                    kinds.add((len(row), len(row) > 0 and row[-1] < len(log) - 1))
                    self.assertEqual(row == [], path in start[function])
                self.assertEqual(causes_of(bodies, log, function, ()), [])
        self.assertGreater(len(kinds), 8)

    def test_the_paragraph_behind_it(self):
        for bodies, log, _ in samples(1410, 150):
            found = causes(bodies, log)
            for at, (function, path, mode) in enumerate(log):
                ahead, upto = log[:at], log[:at + 1]
                self.assertEqual(found[at], causes_of(bodies, ahead, function, path[:-1]))
                self.assertEqual(causes_of(bodies, upto, function, path), found[at] + [at])
                reached = naive.end(bodies.program.calls, function, path)
                copy = apply_log(bodies, ahead).inlined[reached] if mode == "now" else ()
                for part in copy:
                    more = causes_of(bodies, ahead, reached, part)
                    self.assertEqual(causes_of(bodies, upto, function, path + part),
                                     sorted(set(found[at] + [at] + more)))

    def test_steps_that_copy_what_came_in_with_earlier_ones(self):
        program = Program([[1], [2], [3], []])
        log = [(2, (0,), "now"), (1, (0,), "now"), (0, (0,), "now")]
        self.assertEqual(causes(Bodies(program), log), [[], [], []])
        self.assertEqual([causes_of(Bodies(program), log, 0, (0,) * length) for length in range(4)],
                         [[], [2], [1, 2], [0, 1, 2]])
        bodies = Bodies(program, [[], [], [(0,)], []])
        self.assertEqual(causes_of(bodies, log[1:], 0, (0, 0, 0)), [0, 1])
        self.assertEqual(causes_of(bodies, log[1:], 2, (0,)), [])

    def test_kinds_of_arguments(self):
        log = tuple(LOG)
        found = causes(bodies=BODIES, log=log)
        self.assertEqual(found, [[], [], [0, 1]])
        found[2].clear()
        found.clear()
        row = causes_of(bodies=BODIES, log=log, function=0, path=(1, 0))
        self.assertEqual(row, [0, 1])
        row.clear()
        self.assertEqual([causes(BODIES, log), causes_of(BODIES, log, 0, (1, 0))], [[[], [], [0, 1]], [0, 1]])
        kept = list(LOG)
        causes(BODIES, LOG)
        self.assertEqual([LOG, BODIES, causes(BODIES, [])], [kept, Bodies(PROGRAM), []])
