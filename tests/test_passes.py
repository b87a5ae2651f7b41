import random
from itertools import permutations

from ringstays.bodies import Bodies
from ringstays.errors import InvalidFunction, InvalidPass, InvalidPasses, TooMany
from ringstays.logs import apply_log, is_log
from ringstays.passes import apply_pass, is_idle, is_pass, is_pass_list, open_to, pass_log, run_passes, touch
from ringstays.programs import Program, complete
from tests import naive
from tests.cases import HUGE, NO_INTEGERS, NO_LISTS, NO_TUPLES, Case

WRONG_PASSES = NO_TUPLES + [(), (0,), ("now", 0), ("now", 0, 1, 2), ["now", 0, 1], (0, 1, "now"), ("now", 0, 0),
                            ("now", 7, 7), ("now", 0, 8), ("first", 8, 0), ("now", -1, 0), ("first", 0, HUGE)]
WRONG_PASSES += [(mode, 0, 1) for mode in (None, True, 0, "", "Now", "later", "no", ["now"], ("now",), {})]
WRONG_PASSES += [("now", value, 2) for value in NO_INTEGERS] + [("first", 2, value) for value in NO_INTEGERS]


class Examples(Case):
    def test_examples(self):
        bodies = run_passes(Program([[1, 1], [0, 1]]), [("now", 0, 1), ("first", 1, 1)])
        self.assertEqual(bodies.inlined, (((0,), (1,)), ((1,),)))
        self.assertEqual(open_to(bodies, 0, 1), [(0, 1), (1, 1)])
        self.assertEqual(pass_log(bodies, ("now", 0, 1)), [(0, (0, 1), "now"), (0, (1, 1), "now")])
        self.assertEqual(apply_pass(bodies, ("now", 0, 1)).inlined,
                         (((0,), (0, 1), (0, 1, 1), (1,), (1, 1), (1, 1, 1)), ((1,),)))


class Forms(Case):
    def test_passes(self):
        for mode in naive.MODES:
            for function in range(8):
                for callee in range(8):
                    self.assertIs(is_pass((mode, function, callee)), mode == "first" or function != callee)
        self.assertIs(is_pass(value=("now", 0, 1)), True)
        for value in WRONG_PASSES:
            self.assertIs(is_pass(value), False)

    def test_pass_lists(self):
        one = ("first", 1, 1)
        for value in ([], (), [one], (one, one), [one] * 60, [("now", 7, 0), ("now", 7, 0)]):
            self.assertIs(is_pass_list(value), True)
        self.assertIs(is_pass_list(value=[one]), True)
        for value in NO_LISTS + [[one] * 61, (one,) * 61, one, [[one]]]:
            self.assertIs(is_pass_list(value), False)
        for value in WRONG_PASSES:
            self.assertIs(is_pass_list([one, value]), False)

    def test_wrong_passes(self):
        bodies = Bodies(Program([[1], [0]]))
        for one in WRONG_PASSES:
            self.gives(InvalidPass, one, apply_pass, bodies, one)
            self.gives(InvalidPass, one, pass_log, bodies, one)
            self.gives(InvalidPass, one, is_idle, bodies, one)
            self.gives(InvalidPass, one, touch, one, ("now", 0, 1))
            self.gives(InvalidPass, one, touch, ("now", 0, 1), one)
        first, second = ["now"], ["first"]
        self.gives(InvalidPass, first, touch, first, second)

    def test_wrong_pass_lists(self):
        for passes in NO_LISTS + [[("now", 0, 0)], [("now", 0, 1), ["now", 0, 1]], [("now", 0, 1)] * 61, [None]]:
            self.gives(InvalidPasses, passes, run_passes, Program([[1], [0]]), passes)

    def test_wrong_functions(self):
        bodies = Bodies(Program([[1], [0], []]))
        for value in NO_INTEGERS + [3, -1, HUGE]:
            self.gives(InvalidFunction, value, open_to, bodies, value, 0)
            self.gives(InvalidFunction, value, open_to, bodies, value, 9)
            self.gives(InvalidFunction, value, open_to, bodies, 0, value)


class OnePass(Case):
    def setUp(self):
        self.program = Program([[1, 0, 1], [2, 1], [0]])
        self.bodies = Bodies(self.program, [[(0,)], [(0,), (1,)], []])

    def test_open_to(self):
        self.assertEqual(open_to(self.bodies, 0, 1), [(0, 1), (2,)])
        self.assertEqual(open_to(bodies=self.bodies, function=0, callee=0), [(1,)])
        self.assertEqual(open_to(self.bodies, 0, 2), [(0, 0)])
        self.assertEqual(open_to(self.bodies, 2, 1), [])
        long = Bodies(Program([[0]]), [naive.chain(2000)])
        self.assertEqual(open_to(long, 0, 0), [(0,) * 2001])

    def test_now(self):
        made = apply_pass(bodies=self.bodies, one=("now", 0, 1))
        self.assertEqual(made.inlined, (((0,), (0, 1), (0, 1, 0), (0, 1, 1), (2,), (2, 0), (2, 1)), ((0,), (1,)), ()))
        self.assertIs(type(made), Bodies)
        self.assertEqual(made.program, self.program)
        # The calls of 1 that only this pass has opened stay open.
        self.assertEqual(open_to(made, 0, 1), [(0, 1, 1, 1), (2, 1, 1)])

    def test_first(self):
        made = apply_pass(self.bodies, ("first", 0, 1))
        self.assertEqual(made.inlined, (((0,), (0, 1), (2,)), ((0,), (1,)), ()))
        self.assertEqual(pass_log(self.bodies, ("first", 0, 1)), [(0, (0, 1), "first"), (0, (2,), "first")])

    def test_unrolling(self):
        made = apply_pass(self.bodies, ("first", 0, 0))
        self.assertEqual(made.inlined[0], ((0,), (1,)))
        self.assertEqual(apply_pass(made, ("first", 0, 0)).inlined[0], ((0,), (1,), (1, 1)))

    def test_idle(self):
        for one in (("now", 2, 1), ("first", 2, 2), ("now", 7, 0), ("first", 0, 5), ("first", 5, 5)):
            self.assertIs(is_idle(self.bodies, one), True)
            self.assertEqual(apply_pass(self.bodies, one), self.bodies)
            self.assertEqual(pass_log(self.bodies, one), [])
        self.assertIs(is_idle(bodies=self.bodies, one=("now", 0, 1)), False)

    def test_new_lists_and_same_arguments(self):
        for made in (pass_log(self.bodies, ("now", 0, 1)), open_to(self.bodies, 0, 1)):
            made.clear()
        self.assertEqual(pass_log(bodies=self.bodies, one=("now", 0, 1)), [(0, (0, 1), "now"), (0, (2,), "now")])
        self.assertEqual(len(open_to(self.bodies, 0, 1)), 2)
        self.assertEqual(self.bodies, Bodies(self.program, [[(0,)], [(0,), (1,)], []]))

    def test_limits(self):
        program = Program([[1] * 8, [1]])
        many = Bodies(program, [[], naive.chain(221)])
        self.assertEqual(many.size() + 8 * 222, 1997)
        self.assertEqual(apply_pass(many, ("now", 0, 1)).size(), 1997)
        full = Bodies(Program([[1] * 3, [1]]), [[], naive.chain(499)])
        self.assertEqual(apply_pass(full, ("now", 0, 1)).size(), 1999)
        for length, count in ((222, 2006), (1000, 9008)):
            bodies = Bodies(program, [[], naive.chain(length)])
            for asked in (apply_pass, pass_log):
                self.raises(TooMany, {"count": count}, asked, bodies, ("now", 0, 1))
                self.assertEqual(len(pass_log(bodies, ("first", 0, 1))), 8)
            self.assertIs(is_idle(bodies, ("now", 0, 1)), False)
        edge = Bodies(Program([[1, 1], [1]]), [[], naive.chain(666)])
        self.assertEqual(apply_pass(edge, ("now", 0, 1)).size(), 2000)
        over = Bodies(Program([[1, 1, 0], [1]]), [[(2,)], naive.chain(399)])
        self.assertEqual(apply_pass(over, ("now", 0, 1)).size(), 2000)
        over = Bodies(Program([[1, 1, 0], [1], [2]]), [[(2,)], naive.chain(399), [(0,)]])
        self.raises(TooMany, {"count": 2001}, apply_pass, over, ("now", 0, 1))
        self.raises(TooMany, {"count": 2001}, pass_log, over, ("now", 0, 1))

    def test_long_paths(self):
        bodies = Bodies(Program([[0, 1], []]), [naive.chain(2000), []])
        for one, count in ((("first", 0, 0), 2001), (("now", 0, 1), 4001)):
            self.raises(TooMany, {"count": count}, apply_pass, bodies, one)
            self.raises(TooMany, {"count": count}, pass_log, bodies, one)
            self.assertIs(is_idle(bodies, one), False)
        self.assertEqual(apply_pass(bodies, ("first", 1, 0)), bodies)
        less = Bodies(Program([[0, 1], []]), [naive.chain(1999), []])
        self.assertEqual(pass_log(less, ("first", 0, 0)), [(0, (0,) * 2000, "first")])
        self.assertEqual(apply_pass(less, ("first", 0, 0)), bodies)

    def test_as_told(self):
        source = random.Random(42)
        for program, _, bodies in naive.samples(42, 150, 5):
            for one in naive.random_passes(source, 6, 5):
                sets = naive.sets_of(bodies)
                naive.run_pass(program.calls, sets, one)
                made = apply_pass(bodies, one)
                self.assertEqual(made, naive.bodies_of(program, sets))
                log = pass_log(bodies, one)
                self.assertEqual(log, sorted(log))
                self.assertIs(is_idle(bodies, one), log == [])
                self.assertIs(is_idle(bodies, one), made == bodies)
                self.assertEqual(apply_log(bodies, log), made)
                for order in list(permutations(log[:3])) + [log[::-1]]:
                    self.assertIs(is_log(bodies, order), True)
                self.assertEqual(apply_log(bodies, log[::-1]), made)
                if max(one[1:]) < len(program):
                    self.assertEqual([path for _, path, _ in log], open_to(bodies, one[1], one[2]))


class Runs(Case):
    def test_runs(self):
        program = Program([[1], [0, 1]])
        passes = [("first", 1, 1), ("now", 0, 1), ("now", 1, 0), ("now", 5, 1)]
        made = run_passes(program=program, passes=passes)
        self.assertEqual(made.inlined, (((0,), (0, 1)), ((0,), (0, 0), (0, 0, 1), (1,), (1, 0), (1, 0, 0), (1, 0, 0, 1))))
        self.assertEqual(run_passes(program, tuple(passes)), made)
        self.assertEqual(passes[0], ("first", 1, 1))
        self.assertEqual(run_passes(program, []), Bodies(program))
        self.assertEqual(run_passes(program, ()), Bodies(program))

    def test_equal_passes(self):
        made = run_passes(Program([[0]]), [("first", 0, 0)] * 60)
        self.assertEqual(made.inlined, (tuple(naive.chain(60)),))

    def test_too_many(self):
        program = Program([[0] * 8])
        self.raises(TooMany, {"count": 4680}, run_passes, program, [("first", 0, 0)] * 60)
        program = complete(2)
        passes = [("now", 0, 1), ("now", 1, 0)] * 30
        bodies = Bodies(program)
        for at, one in enumerate(passes):
            self.assertEqual(run_passes(program, passes[:at]), bodies)
            try:
                bodies = apply_pass(bodies, one)
            except TooMany as error:
                self.raises(TooMany, {"count": error.count}, run_passes, program, passes)
                break
        else:
            self.fail("no pass makes too many paths")

    def test_as_told(self):
        source = random.Random(43)
        for _ in range(120):
            program = naive.random_program(source)
            passes = naive.random_passes(source, source.randint(0, 7))
            try:
                made = run_passes(program, passes)
            except TooMany:
                continue
            sets = [set() for _ in program.calls]
            for one in passes:
                naive.run_pass(program.calls, sets, one)
            self.assertEqual(made, naive.bodies_of(program, sets))


class Touching(Case):
    def test_touch(self):
        for first, second, told in (
                (("now", 0, 1), ("now", 0, 2), True), (("now", 0, 1), ("now", 1, 2), True),
                (("now", 0, 1), ("now", 2, 0), True), (("now", 0, 1), ("now", 2, 1), False),
                (("now", 0, 1), ("first", 2, 0), False), (("first", 0, 1), ("now", 1, 2), False),
                (("now", 0, 1), ("first", 1, 1), True), (("first", 0, 1), ("first", 1, 1), False),
                (("first", 0, 1), ("first", 0, 2), True), (("first", 0, 0), ("now", 3, 0), True),
                (("first", 0, 0), ("first", 3, 0), False), (("now", 0, 1), ("now", 2, 3), False)):
            self.assertIs(touch(first, second), told)
            self.assertIs(touch(first=second, second=first), told)

    def test_each_touches_itself(self):
        for one in naive.random_passes(random.Random(1), 30, 8):
            self.assertIs(touch(one, one), True)

    def test_neighbours_that_do_not_touch(self):
        source = random.Random(45)
        swapped = 0
        while swapped < 150:
            program = naive.random_program(source)
            passes = naive.random_passes(source, source.randint(2, 6))
            at = source.randrange(len(passes) - 1)
            if touch(passes[at], passes[at + 1]):
                continue
            swapped += 1
            other = passes[:at] + [passes[at + 1], passes[at]] + passes[at + 2:]
            made = []
            for given in (passes, other):
                try:
                    made.append(run_passes(program, given))
                except TooMany:
                    made.append(None)
            self.assertEqual(made[0], made[1])

    def test_neighbours_that_touch(self):
        program = complete(3)
        for one, other in ((("now", 0, 1), ("now", 1, 2)), (("now", 0, 1), ("now", 0, 2)), (("now", 0, 1), ("first", 1, 1))):
            self.assertIs(touch(one, other), True)
            self.assertFalse(run_passes(program, [one, other]) == run_passes(program, [other, one]))
