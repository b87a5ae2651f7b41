import random
from fractions import Fraction
from itertools import product

from ringstays.bodies import Bodies
from ringstays.errors import InvalidCount, InvalidWheel, InvalidWheelLog, StoppedWheel, UnreachableWheel
from ringstays.jumps import jump_cycles
from ringstays.programs import Program
from ringstays.reaching import is_reachable
from ringstays.wheels import after_wheel, determinant, wheel_cycles, wheel_log, wheel_reachable
from tests import naive, naive_wheels
from tests.cases import HUGE, NO_INTEGERS, NO_LISTS, NO_TUPLES, Case

BIG = 10 ** 30
ASKED = [wheel_cycles, determinant, wheel_reachable, wheel_log]
WRONG_WHEELS = NO_LISTS + [[], [1] * 13, [0], [1, 0], [-1], [BIG + 1], [1, HUGE], [[1]], [(1,)], (1, 0)]
WRONG_WHEELS += [[value] for value in NO_INTEGERS] + [[1, value] for value in NO_INTEGERS]
WRONG_LOGS = NO_LISTS + [[(0, 1)] * 101, [(2, 1)], [(-1, 1)], [(0, 0)], [(0, -1)], [(0, BIG + 1)], [(0, HUGE)],
                         [[0, 1]],
                         [(0,)], [(0, 1, 1)], [(0, (1,))], [(0, 1), None], (0, 1), [(HUGE, 1)]]
WRONG_LOGS += [[value] for value in NO_TUPLES] + [[(value, 1)] for value in NO_INTEGERS]
WRONG_LOGS += [[(0, value)] for value in NO_INTEGERS]


def table_of(wheel):
    """The table of point [162]."""
    count = len(wheel)
    return [[sum(1 for place in range(at, at + length) if place % count == column) for column in range(count)]
            for at, length in enumerate(wheel)]


def determinant_of(table):
    rows = [[Fraction(number) for number in row] for row in table]
    found = Fraction(1)
    for at in range(len(rows)):
        pivot = next((row for row in range(at, len(rows)) if rows[row][at]), None)
        if pivot is None:
            return 0
        if pivot != at:
            rows[at], rows[pivot] = rows[pivot], rows[at]
            found = -found
        found *= rows[at][at]
        for row in range(at + 1, len(rows)):
            part = rows[row][at] / rows[at][at]
            rows[row] = [number - part * above for number, above in zip(rows[row], rows[at])]
    return found


def random_wheel(source, count, steps, most):
    """A reachable wheel: steps taken by chance, some of them many times in a row."""
    wheel = [1] * count
    for _ in range(steps):
        function = source.randrange(count)
        for _ in range(source.choice((1, 1, 2, 5, 30))):
            other = (function + wheel[function]) % count
            if other != function and wheel[function] + wheel[other] <= most:
                wheel[function] += wheel[other]
    return wheel


class Examples(Case):
    def test_examples(self):
        self.assertEqual([wheel_cycles([1, 3]), wheel_cycles([2, 2]), determinant([1, 3])],
                         [[((0, 1), 2)], [((0,), 1), ((1,), 1)], 2])
        self.assertEqual([after_wheel(2, [(1, 1), (0, 5)]), after_wheel(3, wheel_log([3, 2, 1]))], [[11, 2], [3, 2, 1]])
        self.raises(StoppedWheel, {"at": 1}, after_wheel, 2, [(0, 1), (0, 1)])


class Errors(Case):
    def test_wrong_wheels(self):
        for wheel in WRONG_WHEELS:
            for ask in ASKED:
                self.gives(InvalidWheel, wheel, ask, wheel)

    def test_unreachable(self):
        for wheel in ([2, 2], [1, 3], [2], [BIG], [1, 2, 3], [3, 3, 3], [BIG] * 12):
            self.raises(UnreachableWheel, {"cycles": wheel_cycles(wheel)}, wheel_log, wheel)

    def test_wrong_counts(self):
        for count in NO_INTEGERS + [0, 13, -1, HUGE]:
            self.gives(InvalidCount, count, after_wheel, count, None)
            self.gives(InvalidCount, count, after_wheel, count, [])

    def test_wrong_logs(self):
        for log in WRONG_LOGS:
            self.gives(InvalidWheelLog, log, after_wheel, 2, log)
        log = [(0, 1), (0, 1), (2, 1)]
        self.gives(InvalidWheelLog, log, after_wheel, 2, log)
        self.assertEqual(after_wheel(2, [(0, 1)] + [(1, 1)] * 99), [2, 199])

    def test_stopped(self):
        self.raises(StoppedWheel, {"at": 0}, after_wheel, 1, [(0, 1)])
        self.raises(StoppedWheel, {"at": 0}, after_wheel, 2, [(0, 2)])
        self.raises(StoppedWheel, {"at": 0}, after_wheel, 12, [(5, 12)])
        self.assertEqual(after_wheel(12, [(5, 11)])[5], 12)
        # With 1 of the length 2, function 1 jumps to itself, and 0 gets 2 more by each step.
        near = (BIG - 2) // 2
        self.assertEqual(after_wheel(2, [(1, 1), (0, near)]), [BIG - 1, 2])
        self.raises(StoppedWheel, {"at": 1}, after_wheel, 2, [(1, 1), (0, near + 1)])
        self.raises(StoppedWheel, {"at": 2}, after_wheel, 2, [(1, 1), (0, near), (0, 1), (9 % 2, 1)])
        self.raises(StoppedWheel, {"at": 1}, after_wheel, 2, [(1, 1), (0, BIG)])
        # Functions 0 and 2 go round with the lengths 2 and 1; function 1 gets these by turns.
        times = (BIG - 1) // 3 * 2
        self.assertEqual(after_wheel(3, [(0, 1), (1, times)]), [2, BIG, 1])
        self.raises(StoppedWheel, {"at": 1}, after_wheel, 3, [(0, 1), (1, times + 1)])
        self.raises(StoppedWheel, {"at": 2}, after_wheel, 3, [(0, 1), (1, times), (1, 1)])
        self.raises(StoppedWheel, {"at": 1}, after_wheel, 3, [(0, 1), (2, 2), (1, times)])


class Wheels(Case):
    def check(self, wheel):
        told = naive_wheels.cycles(wheel)
        self.assertEqual(wheel_cycles(wheel), told)
        right = told[0][1] if len(told) == 1 else 0
        self.assertEqual(determinant(wheel), right)
        self.assertIs(wheel_reachable(wheel), right == 1)
        if right == 1:
            log = wheel_log(wheel)
            self.assertEqual(type(log), list)
            self.assertLessEqual(len(log), 100)
            self.assertTrue(all(type(item) is tuple and len(item) == 2 for item in log))
            self.assertEqual(after_wheel(len(wheel), log), list(wheel))
            self.assertEqual(wheel_log(tuple(wheel)), log)
            return log

    def test_the_determinant_by_its_table(self):
        source = random.Random(162)
        told = set()
        for _ in range(400):
            count = source.randint(1, 6)
            wheel = [source.randint(1, 3 * count) for _ in range(count)]
            self.check(wheel)
            self.assertEqual(determinant(wheel), determinant_of(table_of(wheel)))
            told.add(determinant(wheel))
        self.assertGreaterEqual(told, {0, 1, 2, 3})

    def test_they_stand_for_bodies(self):
        source = random.Random(1620)
        for _ in range(150):
            count = source.randint(1, 5)
            wheel = [source.randint(1, 12) for _ in range(count)]
            bodies = Bodies(Program([[(at + 1) % count] for at in range(count)]),
                            [naive.chain(length - 1) for length in wheel])
            self.assertEqual(jump_cycles(bodies, (0, (0,) * count)), wheel_cycles(wheel))
            self.assertIs(is_reachable(bodies), wheel_reachable(wheel))

    def test_reachable_exactly_if_steps_make_it(self):
        for count, most in ((1, 4), (2, 9), (3, 8), (4, 7), (5, 5)):
            made = naive_wheels.made(count, most)
            for wheel in product(range(1, most + 1), repeat=count):
                self.assertIs(wheel_reachable(list(wheel)), wheel in made)
                if wheel in made:
                    self.assertEqual(naive_wheels.after(count, self.check(list(wheel))), list(wheel))

    def test_samples(self):
        source = random.Random(1621)
        for _ in range(1500):
            count = source.randint(1, 12)
            wheel = random_wheel(source, count, source.randint(0, 20), 10 ** 5)
            self.assertIs(wheel_reachable(wheel), True)
            log = self.check(wheel)
            if max(wheel) < 3000:
                self.assertEqual(naive_wheels.after(count, log), wheel)

    def test_long_lengths(self):
        source = random.Random(1622)
        for _ in range(300):
            wheel = random_wheel(source, source.randint(2, 12), 12, 200)
            # Those that nobody on the cycle jumps to may be longer by any number of rounds.
            cycle = wheel_cycles(wheel)[0][0]
            for at in range(len(wheel)):
                if at not in cycle:
                    wheel[at] += len(wheel) * source.randint(0, (BIG - 200) // len(wheel))
            self.check(wheel)
        self.check([BIG - 1, 2])
        self.check([12] + [BIG - (BIG - 12 + at) % 12 for at in range(1, 12)])
        for wheel in ([1], [1] * 12, [BIG], [BIG] * 12, [1, BIG], [BIG - 1, BIG]):
            self.check(wheel)

    def test_logs_against_single_steps(self):
        source = random.Random(1623)
        told = []
        for _ in range(3000):
            count = source.randint(1, 5)
            log = [(source.randrange(count), source.choice((1, 1, 2, 3, 40))) for _ in range(source.randint(0, 6))]
            right = naive_wheels.after(count, log)
            told.append(type(right) is list)
            if told[-1]:
                self.assertEqual(after_wheel(count, log), right)
            else:
                self.raises(StoppedWheel, {"at": right}, after_wheel, count, log)
        self.assertGreater(min(told.count(True), told.count(False)), 500)

    def test_rounds_and_several_cycles(self):
        self.assertEqual([wheel_cycles([3, 3, 3]), determinant([3, 3, 3])],
                         [[((0,), 1), ((1,), 1), ((2,), 1)], 0])
        self.assertEqual([wheel_cycles([6, 2, 1]), determinant([6, 2, 1])], [[((0,), 2)], 2])
        self.assertEqual([wheel_cycles([1, 2, 3]), determinant([2, 2, 2])], [[((0, 1), 1), ((2,), 1)], 2])
        self.assertEqual(wheel_cycles([BIG]), [((0,), BIG)])
        self.assertEqual([wheel_cycles([BIG, BIG - 1]), determinant([BIG + 0, 1])], [[((0,), BIG // 2)], BIG // 2])

    def test_kinds_of_arguments(self):
        self.assertEqual([wheel_cycles(wheel=(1, 3)), determinant(wheel=(1, 3)), wheel_reachable(wheel=(3, 2, 1))],
                         [[((0, 1), 2)], 2, True])
        self.assertEqual(after_wheel(count=2, log=((1, 1), (0, 5))), [11, 2])
        wheel = [3, 2, 1]
        log = wheel_log(wheel=wheel)
        kept = list(log)
        log.clear()
        wheel_cycles(wheel).clear()
        after_wheel(3, kept).clear()
        self.assertEqual([wheel_log(wheel), wheel, after_wheel(3, kept)], [kept, [3, 2, 1], [3, 2, 1]])
        self.assertEqual([wheel_log([1, 1]), after_wheel(3, [])], [[], [1, 1, 1]])
