import random
from itertools import combinations, product

from ringstays.cuts import cut
from ringstays.errors import InvalidCount, InvalidVisits
from ringstays.orders import equal_acyclic
from ringstays.passes import is_pass_list
from ringstays.programs import complete
from ringstays.towers import equal_visits, tower, visits_separation
from ringstays.visits import run_visits
from tests import naive
from tests.cases import HUGE, NO_INTEGERS, NO_LISTS, Case

WRONG_ROWS = NO_LISTS + [[8], [-1], [HUGE], [0] * 25, [0, [1]], [0, (1,)]] + [[0, value] for value in NO_INTEGERS]


class Examples(Case):
    def test_examples(self):
        self.assertEqual(tower(3)[0], [("now", 1, 0), ("now", 2, 1), ("now", 1, 0)])
        self.assertEqual(tower(4)[1], [("now", 2, 1), ("now", 1, 0), ("now", 3, 2), ("now", 2, 0), ("now", 2, 1),
                                       ("now", 2, 0), ("now", 2, 1)])
        self.assertEqual([equal_visits([0, 1], [1, 0]), visits_separation([2, 2], [2, 2])], [False, None])


class Towers(Case):
    def test_errors(self):
        for count in NO_INTEGERS + [1, 7, 0, -2, HUGE]:
            self.gives(InvalidCount, count, tower, count)

    def test_by_the_words(self):
        for count in range(2, 7):
            one, other = [("now", 1, 0)], []
            for c in range(2, count):
                for passes in (one, other):
                    passes.append(("now", c, c - 1))
                    for _ in range(c - 1):
                        passes.extend(("now", c - 1, callee) for callee in range(c - 1))
            found = tower(count)
            self.assertEqual(found, (one, other))
            self.assertEqual([type(found), type(found[0]), type(found[1])], [tuple, list, list])
            self.assertTrue(all(map(is_pass_list, found)))
        self.assertEqual(tower(2), ([("now", 1, 0)], []))
        self.assertEqual(len(tower(count=6)[0]), 35)

    def test_cuts_are_equal(self):
        for count in range(2, 7):
            one, other = tower(count)
            self.assertIsNotNone(equal_acyclic(one, other, count))
            for size in range(count):
                for group in combinations(range(count), size):
                    self.assertIsNone(equal_acyclic(cut(one, group), cut(other, group), count))

    def test_new_lists(self):
        for count in (2, 6):
            found = tower(count)
            found[0].clear()
            found[1].append(0)
            self.assertEqual(len(tower(count)[0]) - len(tower(count)[1]), 1)


class Visits(Case):
    def test_errors(self):
        for ask in (equal_visits, visits_separation):
            for given in WRONG_ROWS:
                self.gives(InvalidVisits, given, ask, given, [8])
                self.gives(InvalidVisits, given, ask, [0] * 24, given)
            first, second = [8], [8]
            self.gives(InvalidVisits, first, ask, first, second)

    def check(self, one, other):
        same = list(one) == list(other)
        self.assertIs(equal_visits(one, other), same)
        found = visits_separation(one, other)
        self.assertEqual(found is None, same)
        if same:
            return
        self.assertEqual([type(found), len(found), type(found[0]), type(found[2])], [tuple, 3, list, tuple])
        group, function, path = found
        self.assertEqual([len(group), sorted(set(group))], [2, group])
        self.assertTrue(set(group) <= set(range(8)) and function in group and set(path) <= set(group))
        self.assertTrue(1 <= len(path) <= 300)
        both = []
        for order in (one, other):
            passes = [("now", f, group[0] if f == group[1] else group[1]) for f in order if f in group]
            both.append(len(naive.walk(passes, function, path)[0]) == len(path))
        self.assertEqual(sorted(both), [False, True])
        self.assertEqual(visits_separation(tuple(one), tuple(other)), found)

    def test_rows(self):
        source = random.Random(94)
        for _ in range(400):
            one = [source.randrange(source.randint(1, 8)) for _ in range(source.randint(0, 24))]
            kind = source.randrange(4)
            other = list(one)
            if kind == 0:
                source.shuffle(other)
            elif kind == 1 and other:
                at = source.randrange(len(other))
                other[at:at + 1] = [] if source.random() < 0.5 else [source.randrange(8)]
            elif kind == 2 and len(other) > 1:
                at = source.randrange(len(other) - 1)
                other[at:at + 2] = other[at:at + 2][::-1]
            self.check(one, other)
            self.check(other, one)

    def test_long_rows(self):
        swelling = [at & 1 for at in range(24)]
        for at in range(23):
            self.check(swelling, swelling[:at] + [1 - swelling[at]] + swelling[at + 1:])
            self.check(swelling, swelling[:at] + swelling[at + 1:])
            self.check(swelling, swelling[:at] + swelling[at:at + 2][::-1] + swelling[at + 2:])
        for one, other in (([7] * 24, [7] * 23), ([7] * 24, [6] * 24), ([0] * 24, []), ([], [7]), ([3, 5], [5, 3]),
                           ([0] * 12 + [1] * 12, [0] * 11 + [1, 0] + [1] * 11)):
            self.check(one, other)

    def test_only_the_same_rows_make_the_same_bodies(self):
        rows = [row for length in range(4) for row in product(range(3), repeat=length)]
        bodies = [run_visits(complete(3), row) for row in rows]
        for one, other in combinations(range(len(rows)), 2):
            self.assertNotEqual(bodies[one], bodies[other])
            self.assertIs(equal_visits(rows[one], list(rows[other])), False)

    def test_kinds_of_arguments(self):
        self.assertIs(equal_visits(one=[0, 1], other=(0, 1)), True)
        self.assertIsNone(visits_separation(one=(0, 1), other=[0, 1]))
        self.assertIs(equal_visits([], ()), True)
        one = [1, 0]
        visits_separation(one, [0, 1])[0].clear()
        self.assertEqual(visits_separation(one, [0, 1])[0], [0, 1])
        self.assertEqual(one, [1, 0])
