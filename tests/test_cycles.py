import random
from itertools import product

from ringstays.cycles import is_cycle
from ringstays.programs import Program
from tests import naive
from tests.cases import HUGE, NO_INTEGERS, NO_TUPLES, Case

PAIR = Program([[1], [0]])
MOST = 2100000


def is_cycle_by_words(calls, function, path):
    if not path or naive.end(calls, function, path) != function:
        return False
    for length in range(1, len(path)):
        part = path[:length]
        if len(path) % length == 0 and part * (len(path) // length) == path:
            if naive.end(calls, function, part) == function:
                return False
    return True


class Examples(Case):
    def test_examples(self):
        self.assertEqual([is_cycle(PAIR, (0, (0, 0))), is_cycle(PAIR, (0, (0, 0, 0, 0)))], [True, False])


class Cycles(Case):
    def test_all_short_paths(self):
        for calls in ([[1, 0], [0]], [[1], [2, 0], [0]], [[0, 0]], [[1], [1]], [[1], []]):
            program = Program(calls)
            for function in range(len(calls)):
                for length in range(9):
                    for path in product(range(2), repeat=length):
                        try:
                            right = is_cycle_by_words(calls, function, path)
                        except IndexError:
                            right = False
                        self.assertIs(is_cycle(program, (function, path)), right)

    def test_some_cycles(self):
        loop = Program([[0, 0]])
        for path in ((0,), (1,), (0, 1), (0, 0, 1), (0, 1, 0, 0), (1,) * 5 + (0,)):
            self.assertIs(is_cycle(program=loop, value=(0, path)), True)
        for path in ((0, 0), (1, 1, 1), (0, 1, 0, 1), (0, 0, 1) * 3, (0, 1) * 6):
            self.assertIs(is_cycle(loop, (0, path)), False)
        # The same calls again, but not back in between.
        ring = Program([[1], [2], [3], [4], [5], [0]])
        self.assertIs(is_cycle(ring, (2, (0,) * 6)), True)
        for length in (1, 2, 3, 4, 5, 7, 12, 18):
            self.assertIs(is_cycle(ring, (2, (0,) * length)), False)

    def test_long_cycles(self):
        loop = Program([[0, 0]])
        for length in (2001, 100003, MOST):
            self.assertIs(is_cycle(loop, (0, (0,) * (length - 1) + (1,))), True)
            self.assertIs(is_cycle(loop, (0, (0,) * length)), False)
        self.assertIs(is_cycle(loop, (0, (0,) * MOST + (1,))), False)
        self.assertIs(is_cycle(loop, (0, ((0,) * (MOST // 7 - 1) + (1,)) * 7)), False)
        self.assertIs(is_cycle(loop, (0, ((0,) * (MOST // 2 - 1) + (1,)) * 2)), False)
        self.assertIs(is_cycle(loop, (0, (0,) * (MOST - 1) + (True,))), False)
        self.assertIs(is_cycle(PAIR, (1, (0,) * MOST)), False)

    def test_wrong_values(self):
        self.assertIs(is_cycle(PAIR, (1, (0, 0))), True)
        wrong = NO_TUPLES + [(), (0,), (0, ()), (0, (0,)), [0, (0, 0)], (0, [0, 0]), (0, (0, 0), 0), (2, (0, 0)),
                             (-1, (0, 0)), (HUGE, (0, 0)), (0, (0, 1)), (0, (0, -1)), (0, (HUGE, 0)), (0, None),
                             (0, 0), (0, "00"), ((0, 0), 0)]
        wrong += [(value, (0, 0)) for value in NO_INTEGERS] + [(0, (0, value)) for value in NO_INTEGERS]
        for value in wrong:
            self.assertIs(is_cycle(PAIR, value), False)

    def test_random_walks(self):
        source = random.Random(101)
        for _ in range(300):
            program = naive.random_program(source)
            cycle = naive.random_cycle(source, program.calls, 12)
            if cycle is not None:
                self.assertIs(is_cycle(program, cycle), True)
                self.assertIs(is_cycle(program, (cycle[0], cycle[1] * source.randint(2, 4))), False)
