import random

from ringstays.bodies import Bodies
from ringstays.errors import InvalidLog, Stopped
from ringstays.logs import apply_log, backward, copied, fold_log, is_log
from ringstays.programs import Program
from ringstays.steps import fold_call, inline_call
from tests import naive
from tests.cases import HUGE, NO_INTEGERS, NO_LISTS, Case

PROGRAM = Program([[1], [0, 1]])
START = Bodies(PROGRAM)
LOG = [(1, (0,), "now"), (0, (0,), "now"), (1, (1,), "first")]

WRONG_STEPS = NO_INTEGERS + [0, list(LOG[0]), LOG[0][:2], LOG[0] + ("now",), ((0,), 0, "now"), ("now", (0,), 0)]
WRONG_STEPS += [(0, (0,), mode) for mode in (None, True, 0, "", "Now", "later", "nowfirst", ["now"], ("now",), {})]
WRONG_STEPS += [(0, path, "now") for path in (None, 0, "0", (), [], [0], (0,) * 2001, (-1,), (0, -1), {}, PROGRAM)]
WRONG_STEPS += [(0, (value,), "now") for value in NO_INTEGERS] + [(0, (0, value), "now") for value in NO_INTEGERS]
WRONG_STEPS += [(value, (0,), "now") for value in NO_INTEGERS + [-1, 8, HUGE]]
WRONG_LOGS = NO_LISTS + [[(0, (0,), "now")] * 2001, ((0, (0,), "now"),) * 2001]
WRONG_LOGS += [[step] for step in WRONG_STEPS] + [[(0, (0,), "now"), step] for step in WRONG_STEPS]


class Examples(Case):
    def test_examples(self):
        self.assertEqual(
            [apply_log(START, LOG).inlined, copied(START, LOG), is_log(START, LOG[1:] + LOG[1:])],
            [(((0,), (0, 0)), ((0,), (1,))), [1, 2, 1], False])
        self.assertEqual([backward(LOG)[0], fold_log(apply_log(START, LOG), backward(LOG)) == START],
                         [(1, (1,), "first"), True])


class Forms(Case):
    def test_wrong_logs(self):
        for given in WRONG_LOGS:
            self.gives(InvalidLog, given, apply_log, START, given)
            self.gives(InvalidLog, given, fold_log, START, given)
            self.gives(InvalidLog, given, copied, START, given)
            self.gives(InvalidLog, given, backward, given)
            self.assertIs(is_log(START, given), False)

    def test_wrong_logs_come_ahead_of_stops(self):
        given = [(0, (1,), "now"), (0, (0,), "late")]
        self.gives(InvalidLog, given, apply_log, START, given)
        self.gives(InvalidLog, given, fold_log, START, given)

    def test_empty(self):
        for log in ([], ()):
            self.assertEqual(apply_log(START, log), START)
            self.assertEqual(fold_log(START, log), START)
            self.assertIs(is_log(START, log), True)
            self.assertEqual(copied(START, log), [])
            self.assertEqual(backward(log), [])

    def test_tuples_and_names(self):
        self.assertEqual(apply_log(bodies=START, log=tuple(LOG)), apply_log(START, LOG))
        self.assertEqual(copied(bodies=START, log=tuple(LOG)), [1, 2, 1])
        self.assertIs(is_log(bodies=START, value=tuple(LOG)), True)
        self.assertEqual(backward(log=tuple(LOG)), [LOG[2], LOG[1], LOG[0]])
        self.assertEqual(fold_log(bodies=apply_log(START, LOG), log=tuple(backward(LOG))), START)
        self.assertIs(type(backward(tuple(LOG))), list)

    def test_new_lists_and_same_arguments(self):
        log = list(LOG)
        backward(log).clear()
        copied(START, log).clear()
        apply_log(START, log)
        fold_log(apply_log(START, log), backward(log))
        self.assertEqual(log, LOG)
        self.assertIsNot(backward(log), backward(log))
        self.assertEqual(copied(START, log), [1, 2, 1])
        self.assertEqual(START, Bodies(PROGRAM))

    def test_numbers_of_no_call_are_a_log(self):
        log = [(7, (HUGE,) * 2000, "now")]
        self.assertEqual(backward(log), log)
        self.raises(Stopped, {"at": 0, "reached": START}, apply_log, START, log)


class Stops(Case):
    def stops(self, change, bodies, log, at, reached):
        self.raises(Stopped, {"at": at, "reached": reached}, change, bodies, log)

    def test_apply_log_stops(self):
        behind = apply_log(START, LOG[:2])
        for step in ((7, (0,), "now"), (0, (1,), "now"), (0, (0,), "now"), (1, (1,), "now"), (0, (0, 0, 1, 0), "now"),
                     (0, (0, 0), "first")):
            self.stops(apply_log, START, LOG[:2] + [step] + LOG, 2, behind)
            self.stops(copied, START, LOG[:2] + [step] + LOG, 2, behind)
            self.assertIs(is_log(START, LOG[:2] + [step]), False)
            self.stops(apply_log, behind, [step], 0, behind)

    def test_fold_log_stops(self):
        bodies = apply_log(START, LOG)
        behind = fold_call(bodies, 1, (1,), original=True)
        for step in ((7, (0,), "now"), (0, (1,), "now"), (1, (1,), "now"), (1, (1,), "first"), (1, (0, 0), "now"),
                     (0, (0,), "first"), (1, (0,), "now")):
            self.stops(fold_log, bodies, [LOG[2], step] + LOG, 1, behind)

    def test_limits(self):
        program = Program([[0], [0]])
        log = [(0, path, "first") for path in naive.chain(2000)]
        full = Bodies(program, [naive.chain(2000), []])
        self.assertEqual(apply_log(Bodies(program), log), full)
        self.assertEqual(copied(Bodies(program), log), [1] * 2000)
        self.assertIs(is_log(Bodies(program), log), True)
        self.assertEqual(fold_log(full, backward(log)), Bodies(program))
        self.stops(apply_log, full, [(1, (0,), "first")], 0, full)
        self.stops(apply_log, full, [(1, (0,), "now")], 0, full)
        most = Bodies(program, [naive.chain(1999), []])
        self.stops(apply_log, most, log[1999:] + [(1, (0,), "first")], 1, full)
        half = Bodies(program, [naive.chain(1000), []])
        self.stops(copied, half, [(1, (0,), "now")], 0, half)
        less = Bodies(program, [naive.chain(999), [(0,)]])
        self.assertEqual(copied(Bodies(program, [naive.chain(999), []]), [(1, (0,), "now")]), [1000])
        self.stops(apply_log, less, [(1, (0,), "now")], 0, less)


class AsTold(Case):
    def test_logs(self):
        for program, log, bodies in naive.samples(34, 150, 8):
            start = Bodies(program)
            one, many = start, []
            for function, path, mode in log:
                behind = inline_call(one, function, path, original=mode == "first")
                many.append(behind.size() - one.size())
                one = behind
            self.assertEqual(one, bodies)
            self.assertEqual(apply_log(start, log), bodies)
            self.assertIs(is_log(start, log), True)
            self.assertEqual(copied(start, log), many)
            self.assertEqual(sum(many), bodies.size())
            self.assertTrue(all(count == 1 for count, step in zip(many, log) if step[2] == "first"))
            self.assertEqual(fold_log(bodies, backward(log)), start)
            for at in range(len(log)):
                self.assertEqual(apply_log(apply_log(start, log[:at]), log[at:]), bodies)

    def test_changed_logs(self):
        source = random.Random(35)
        stopped = 0
        for program, log, _ in naive.samples(36, 150, 8):
            start, changed = Bodies(program), list(log)
            source.shuffle(changed)
            at, one = 0, start
            for function, path, mode in changed:
                try:
                    one = inline_call(one, function, path, original=mode == "first")
                except ValueError:
                    break
                at += 1
            self.assertIs(is_log(start, changed), at == len(changed))
            if at < len(changed):
                stopped += 1
                self.raises(Stopped, {"at": at, "reached": one}, apply_log, start, changed)
                self.raises(Stopped, {"at": at, "reached": one}, copied, start, changed)
        self.assertGreater(stopped, 10)
