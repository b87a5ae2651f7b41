import random
from itertools import combinations

from ringstays.bodies import Bodies
from ringstays.causes import causes, causes_of
from ringstays.errors import InvalidIndexes, InvalidLog, Stopped, TooMany
from ringstays.logs import apply_log
from ringstays.skips import skipped
from tests import naive
from tests.cases import HUGE, NO_INTEGERS, NO_LISTS, Case
from tests.test_causes import BODIES, LOG, LOOP, PROGRAM, loop_log, samples
from tests.test_logs import WRONG_LOGS

WRONG_INDEXES = NO_LISTS + [[3], [0, 3], [-1], [HUGE], [1, 0], [0, 0], [0, 1, 2, 3], [[0]], [(0,)], (2, 1)]
WRONG_INDEXES += [[value] for value in NO_INTEGERS] + [[0, value] for value in NO_INTEGERS]


class Examples(Case):
    def test_examples(self):
        behind, done = skipped(BODIES, LOG, [0])
        self.assertEqual([behind.inlined, done], [(((1,),), (), ()), [1]])
        self.raises(InvalidIndexes, {"given": [3]}, skipped, BODIES, LOG, [3])


class Errors(Case):
    def test_wrong_logs(self):
        for log in WRONG_LOGS:
            self.gives(InvalidLog, log, skipped, BODIES, log, None)

    def test_stopped_and_too_many(self):
        log = LOG + [(0, (1,), "now")]
        self.raises(Stopped, {"at": 3, "reached": apply_log(BODIES, LOG)}, skipped, BODIES, log, [3])
        self.raises(TooMany, {"count": 401}, skipped, Bodies(LOOP), loop_log(401), None)
        behind, done = skipped(Bodies(LOOP), loop_log(400), [200])
        self.assertEqual([behind.size(), done], [200, list(range(200))])

    def test_wrong_indexes(self):
        for indexes in WRONG_INDEXES:
            self.gives(InvalidIndexes, indexes, skipped, BODIES, LOG, indexes)
        self.raises(InvalidIndexes, {"given": [0]}, skipped, BODIES, [], [0])


class Skips(Case):
    def check(self, bodies, log, indexes):
        told, done_told = naive.skipped(bodies.program.calls, naive.sets_of(bodies), log, indexes)
        found = skipped(bodies, log, indexes)
        self.assertEqual([type(found), len(found), type(found[1])], [tuple, 2, list])
        behind, done = found
        self.assertEqual([behind, done], [naive.bodies_of(bodies.program, told), done_told])
        self.assertEqual(apply_log(bodies, [log[at] for at in done]), behind)
        return behind, done

    def test_samples(self):
        source = random.Random(142)
        for bodies, log, _ in samples(1420, 500):
            for _ in range(3):
                indexes = sorted(source.sample(range(len(log)), source.randint(0, min(3, len(log)))))
                behind, done = self.check(bodies, log, indexes)
                self.check_causes(bodies, log, indexes, behind, done)
                self.check_two_goes(source, bodies, log, indexes, done)

    def check_causes(self, bodies, log, indexes, behind, done):
        found = causes(bodies, log)
        self.assertEqual(done, [at for at in range(len(log)) if not {at, *found[at]} & set(indexes)])
        whole = apply_log(bodies, log)
        for function, row in enumerate(whole.inlined):
            left = [path for path in row if not set(causes_of(bodies, log, function, path)) & set(indexes)]
            self.assertEqual(behind.inlined[function], tuple(left))

    def check_two_goes(self, source, bodies, log, indexes, done):
        """Skipping some steps of the log that is left leaves what skipping all at once leaves."""
        left = [log[at] for at in done]
        more = sorted(source.sample(range(len(left)), min(len(left), 2)))
        once = skipped(bodies, log, sorted(indexes + [done[at] for at in more]))
        twice = skipped(bodies, left, more)
        self.assertEqual([once[0], once[1]], [twice[0], [done[at] for at in twice[1]]])

    def test_all_indexes_of_short_logs(self):
        for bodies, log, _ in samples(1421, 60, 6):
            for count in range(len(log) + 1):
                for indexes in combinations(range(len(log)), count):
                    self.check(bodies, log, list(indexes))

    def test_none_and_all(self):
        for bodies, log, _ in samples(1422, 60):
            self.assertEqual(skipped(bodies, log, []), (apply_log(bodies, log), list(range(len(log)))))
            self.assertEqual(skipped(bodies, log, list(range(len(log)))), (bodies, []))

    def test_kinds_of_arguments(self):
        behind, done = skipped(bodies=BODIES, log=tuple(LOG), indexes=(0,))
        self.assertEqual([behind.inlined, done], [(((1,),), (), ()), [1]])
        done.clear()
        indexes, log = [0], list(LOG)
        self.assertEqual(skipped(BODIES, log, indexes)[1], [1])
        self.assertEqual([indexes, log, BODIES], [[0], LOG, Bodies(PROGRAM)])
