import random
from itertools import combinations, product
from math import comb

from ringstays.counts import count_staying, count_wheels, count_within
from ringstays.errors import InvalidCount, InvalidGroup, InvalidInlinedCount, InvalidLimits, InvalidStaying
from ringstays.wheels import wheel_cycles, wheel_reachable
from tests import naive_wheels
from tests.cases import HUGE, NO_INTEGERS, NO_LISTS, Case

WRONG_COUNTS = NO_INTEGERS + [0, 13, -1, HUGE]
WRONG_INLINED = NO_INTEGERS + [-1, 401, HUGE]
WRONG_LIMITS = NO_LISTS + [[], [1] * 13, [0], [1, 0], [-1], [10 ** 18 + 1], [1, HUGE], [[1]], [(1,)]]
WRONG_LIMITS += [[value] for value in NO_INTEGERS] + [[1, value] for value in NO_INTEGERS]
WRONG_BARE = NO_LISTS + [[3], [-1], [HUGE], [1, 0], [0, 0], [0, 1, 2], (0, 1, 2), [[0]], [0, 3]]
WRONG_BARE += [[value] for value in NO_INTEGERS] + [[0, value] for value in NO_INTEGERS]


def within(limits, bare):
    """A listing of all wheels within the limits."""
    count = len(limits)
    ranges = [[1] if at in bare else range(1, limit * count + 1) for at, limit in enumerate(limits)]
    return sum(1 for wheel in product(*ranges) if wheel_reachable(wheel))


class Examples(Case):
    def test_examples(self):
        self.assertEqual([count_wheels(3, 2), count_wheels(3, 3), count_staying(3, 2, 1)], [6, 3, 3])
        self.assertEqual([count_within([1, 1, 1], [0]), count_within([1, 1, 2], [0])], [7, 11])


class Errors(Case):
    def test_wrong_counts(self):
        for count in WRONG_COUNTS:
            self.gives(InvalidCount, count, count_wheels, count, None)
            self.gives(InvalidCount, count, count_staying, count, None, None)

    def test_wrong_inlined(self):
        for inlined in WRONG_INLINED:
            self.gives(InvalidInlinedCount, inlined, count_wheels, 3, inlined)
            self.gives(InvalidInlinedCount, inlined, count_staying, 3, inlined, None)

    def test_wrong_staying(self):
        for staying in NO_INTEGERS + [0, 4, -1, 13, HUGE]:
            self.gives(InvalidStaying, staying, count_staying, 3, 2, staying)

    def test_wrong_limits(self):
        for limits in WRONG_LIMITS:
            self.gives(InvalidLimits, limits, count_within, limits, None)
            self.gives(InvalidLimits, limits, count_within, limits, [])

    def test_wrong_groups(self):
        for bare in WRONG_BARE:
            self.gives(InvalidGroup, bare, count_within, [1, 2, 1], bare)
        for count in (1, 12):
            bare = list(range(count))
            self.gives(InvalidGroup, bare, count_within, [1] * count, bare)
        self.assertEqual(count_within([10 ** 18], []), 1)


class Counts(Case):
    def test_a_listing(self):
        for count, most in ((1, 6), (2, 14), (3, 10), (4, 8), (5, 6)):
            for inlined in range(most + 1):
                found = {}
                for wheel in naive_wheels.wheels_of(count, count + inlined):
                    cycles = naive_wheels.cycles(wheel)
                    if len(cycles) == 1 and cycles[0][1] == 1:
                        staying = len(cycles[0][0])
                        found[staying] = found.get(staying, 0) + 1
                self.assertEqual(count_wheels(count, inlined), sum(found.values()))
                for staying in range(1, count + 1):
                    self.assertEqual(count_staying(count, inlined, staying), found.get(staying, 0))

    def test_edges(self):
        for count in (1, 2, 5, 12):
            self.assertEqual([count_wheels(count, 0), count_staying(count, 0, count)], [1, 1])
            for inlined in (1, 7, 400):
                self.assertEqual(count_staying(count, inlined, count), 0)
        self.assertEqual([count_wheels(1, inlined) for inlined in (0, 1, 400)], [1, 0, 0])
        self.assertEqual([count_wheels(2, inlined) for inlined in range(5)], [1, 2, 0, 2, 0])
        for inlined in (0, 3, 11, 12, 399, 400):
            self.assertEqual(count_wheels(12, inlined), sum(count_staying(12, inlined, r) for r in range(1, 13)))

    def test_long_series(self):
        """The fraction multiplied out: C(m, r) q^(m - r) (1 + .. + q^(r - 1)) / ((1 - q)^(m - r - 1) (1 - q^m))."""
        for count in (2, 3, 7, 12):
            for inlined in (0, 5, 50, 398, 399, 400):
                for staying in range(1, count):
                    away = count - staying
                    total = 0
                    for rounds in range(inlined // count + 1):
                        for more in range(staying):
                            left = inlined - away - rounds * count - more
                            if left >= 0:
                                total += comb(left + away - 2, away - 2) if away > 1 else int(left == 0)
                    self.assertEqual(count_staying(count, inlined, staying), comb(count, staying) * total)

    def test_within_by_a_listing(self):
        for count, most in ((1, 3), (2, 4), (3, 2), (4, 1)):
            for limits in product(range(1, most + 1), repeat=count):
                for size in range(count):
                    for bare in combinations(range(count), size):
                        self.assertEqual(count_within(list(limits), list(bare)), within(limits, bare))

    def test_bare_groups_that_go_round_the_end(self):
        for limits, bare in (([1, 1, 1, 1, 1], [0, 4]), ([1, 2, 1, 1], [0, 1, 3]), ([2, 1, 1, 1], [1, 2, 3]),
                             ([1, 1, 2, 1, 1], [0, 1, 3, 4])):
            self.assertEqual(count_within(limits, bare), within(limits, bare))

    def test_limits_of_bare_functions_do_not_count(self):
        self.assertEqual(count_within([10 ** 18, 1, 2], [0]), 11)
        self.assertEqual(count_within([1, 10 ** 18, 1], [1]), count_within([1, 3, 1], [1]))

    def test_large_limits(self):
        limit = 10 ** 18
        self.assertEqual(count_within([limit, limit], []), ((2 * limit + 1) * 2) // 2)
        self.assertEqual(count_within([limit] * 12, []), (12 * limit + 1) ** 11)
        self.assertEqual(count_within([limit] * 12, list(range(11))), 12)

    def test_samples_against_single_wheels(self):
        source = random.Random(163)
        for _ in range(60):
            count = source.randint(2, 4)
            limits = [source.randint(1, 2) for _ in range(count)]
            bare = [at for at in range(count) if source.random() < 0.4][:count - 1]
            self.assertEqual(count_within(tuple(limits), tuple(bare)), within(limits, bare))

    def test_kinds_of_arguments(self):
        self.assertEqual([count_wheels(count=3, inlined=2), count_staying(count=3, inlined=2, staying=1)], [6, 3])
        limits, bare = [1, 1, 2], [0]
        self.assertEqual([count_within(limits=limits, bare=bare), count_within((1, 1, 2), (0,))], [11, 11])
        self.assertEqual([limits, bare, wheel_cycles([2, 1])], [[1, 1, 2], [0], [((0,), 1)]])
