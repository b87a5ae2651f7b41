import random
from itertools import permutations, product

from ringstays.bodies import is_inlined
from ringstays.errors import InvalidCount, InvalidPasses, NoCall, SmallCount, TooMany
from ringstays.orders import equal_acyclic, is_acyclic_separation
from ringstays.passes import run_passes
from ringstays.programs import Program, path_of, ranked
from tests import naive
from tests.cases import HUGE, NO_INTEGERS, NO_LISTS, NO_TUPLES, Case

WRONG_LISTS = NO_LISTS + [[("now", 0, 0)], [("now", 0, 1), ["now", 0, 1]], [("now", 0, 1)] * 61, [None]]
ONE, OTHER = [("now", 1, 0), ("now", 2, 1)], [("now", 2, 1), ("now", 1, 0)]
ASKED = [equal_acyclic, lambda one, other, count: is_acyclic_separation(one, other, count, None)]


def pairs(seed, count, functions, most):
    source = random.Random(seed)
    for _ in range(count):
        one = naive.random_passes(source, source.randint(0, most), functions)
        kind = source.randrange(3)
        if kind == 0:
            other = source.sample(one, len(one))
        elif kind == 1:
            other = naive.changed_a_bit(source, one, functions, True)
        else:
            other = naive.led_on(source, one, 4, most, naive.linked)
        yield one, other


class Examples(Case):
    def test_examples(self):
        self.assertEqual([is_acyclic_separation(ONE, OTHER, 3, ([2, 1, 0], 2, (1, 0))),
                          is_acyclic_separation(ONE, OTHER, 3, ([2, 0, 1], 2, (1, 0)))], [True, False])
        self.assertIsNone(equal_acyclic([("now", 1, 0), ("now", 0, 1)], [("now", 0, 1), ("now", 1, 0)], 2))
        self.raises(SmallCount, {"count": 2}, equal_acyclic, ONE, OTHER, 2)


class Errors(Case):
    def test_in_order(self):
        for ask in ASKED:
            for given in WRONG_LISTS:
                self.gives(InvalidPasses, given, ask, given, [None], 0)
                self.gives(InvalidPasses, given, ask, OTHER, given, 0)
            for count in NO_INTEGERS + [0, 7, -1, HUGE]:
                self.gives(InvalidCount, count, ask, ONE, OTHER, count)
            for count in (1, 2):
                self.raises(SmallCount, {"count": count}, ask, ONE, OTHER, count)
                self.raises(SmallCount, {"count": count}, ask, [], [("now", 2, 1)], count)
                self.raises(SmallCount, {"count": count}, ask, [("first", 0, 2)], [], count)
                self.raises(SmallCount, {"count": count}, ask, [("first", 2, 2)], [], count)
            self.raises(SmallCount, {"count": 6}, ask, [("first", 6, 6)], [("first", 6, 6)], 6)
        self.assertIsNone(equal_acyclic([("first", 5, 5)], [], 6))
        self.assertIsNone(equal_acyclic([], [("first", 0, 0)], 1))


class Separations(Case):
    def check_found(self, one, other, count, found):
        self.assertEqual([type(found), len(found), type(found[0]), type(found[2])], [tuple, 3, list, tuple])
        order, function, told = found
        self.assertEqual(sorted(order), list(range(count)))
        self.assertGreater(len(told), 0)
        program = ranked(order)
        path = path_of(program, function, told)
        try:
            both = [is_inlined(run_passes(program, passes), function, path) for passes in (one, other)]
        except TooMany:
            both = [len(naive.walk(passes, function, told)[0]) == len(told) for passes in (one, other)]
        self.assertEqual(sorted(both), [False, True])
        self.assertIs(is_acyclic_separation(one, other, count, found), True)
        self.assertIs(is_acyclic_separation(other, one, count, found), True)
        self.assertEqual(equal_acyclic(tuple(one), tuple(other), count), found)

    def differ(self, one, other, count):
        """Whether some ranked program of so many functions tells the lists apart."""
        programs = [ranked(list(order)) for order in permutations(range(count))]
        return any(run_passes(program, one) != run_passes(program, other) for program in programs)

    def test_ranked_programs(self):
        told = []
        for functions, most, count in ((2, 5, 150), (3, 7, 150), (4, 10, 80), (5, 9, 15)):
            for one, other in pairs(functions, count, functions, most):
                found = equal_acyclic(one, other, functions)
                told.append(found is None)
                self.assertIs(found is not None, self.differ(one, other, functions))
                if found is not None:
                    self.check_found(one, other, functions, found)
        self.assertGreater(min(told.count(True), told.count(False)), 60)

    def test_acyclic_programs(self):
        """Lists that are equal on ranked programs are so on others, also where calls stand twice."""
        source, checked = random.Random(92), 0
        for one, other in pairs(93, 150, 4, 8):
            if equal_acyclic(one, other, 4) is not None:
                continue
            order = source.sample(range(4), 4)
            rows = [[source.choice(order[place + 1:]) for _ in range(source.randint(0, 3)) if order[place + 1:]]
                    for place in range(4)]
            program = Program([rows[order.index(function)] for function in range(4)])
            self.assertEqual(run_passes(program, one), run_passes(program, other))
            checked += 1
        self.assertGreater(checked, 30)

    def test_more_functions_than_the_lists_have(self):
        self.check_found(ONE, OTHER, 3, equal_acyclic(ONE, OTHER, 3))
        for count in (4, 5, 6):
            self.check_found(ONE, OTHER, count, equal_acyclic(ONE, OTHER, count))
            self.assertIsNone(equal_acyclic(ONE, list(ONE), count))
        self.assertIsNone(equal_acyclic([], [], 1))
        self.assertIsNone(equal_acyclic(one=[("first", 0, 0)], other=[("first", 0, 0)] * 2, count=3))

    def test_long_lists(self):
        for one, other in pairs(94, 12, 6, 60):
            found = equal_acyclic(one, other, 6)
            if found is not None:
                self.check_found(one, other, 6, found)

    def test_new_lists(self):
        found = equal_acyclic(ONE, OTHER, 3)
        found[0].clear()
        self.assertEqual(len(equal_acyclic(ONE, OTHER, 3)[0]), 3)


class Judge(Case):
    def test_wrong_values(self):
        for value in (([2, 1, 0], 2, (1, 0)), ((2, 1, 0), 2, (1, 0))):
            self.assertIs(is_acyclic_separation(ONE, OTHER, 3, value), True)
            self.assertIs(is_acyclic_separation(one=ONE, other=tuple(OTHER), count=3, value=value), True)
        wrong = NO_TUPLES + [(), ([2, 1, 0], 2), ([2, 1, 0], 2, (1, 0), 0), [[2, 1, 0], 2, (1, 0)],
                             ([2, 1, 0], 2, [1, 0]), ([2, 1, 0], 2, ()), ([2, 1, 0], 2, (1,)), ([2, 1, 0], 1, (0,)),
                             ([2, 1], 2, (1, 0)), ([2, 1, 0, 3], 2, (1, 0)), ([2, 1, 1], 2, (1, 0)), (None, 2, (1, 0)),
                             ([2, 1, 0], 3, (1, 0)), ([2, 1, 0], -1, (1, 0)), ([2, 1, 0], 2, (1, 0, 0)),
                             ([2, 1, 0], 2, (2, 1, 0)), ([0, 1, 2], 2, (1, 0)), ([2, 1, 0], 2, None),
                             ([2, 1, 0], 2, (1, 3)), ([2, 1, 0], 2, (1, HUGE)), ([2, 1, HUGE], 2, (1, 0)), ([2, 1, 0, 0], 2, (1, 0)),
                             ([2, 1, 3], 2, (1, 0)), ([3, 2, 1], 2, (1, 0)), ([2, 1, 0], 2, (1, 0, 3)),
                             ([2, 1, 0], 2, (1, 0) * 1001), ("210", 2, (1, 0)), ([2, 1, -1], 2, (1, -1))]
        wrong += [([2, 1, value], 2, (1, 0)) for value in NO_INTEGERS]
        wrong += [([2, value, 0], 2, (1, 0)) for value in NO_INTEGERS]
        wrong += [([2, 1, 0], value, (1, 0)) for value in NO_INTEGERS]
        wrong += [([2, 1, 0], 2, (1, value)) for value in NO_INTEGERS]
        wrong += [([2, 1, 0], 2, (value, 0)) for value in NO_INTEGERS]
        for value in wrong:
            self.assertIs(is_acyclic_separation(ONE, OTHER, 3, value), False)

    def test_all_small_values(self):
        rows = [row for length in range(4) for row in product(range(3), repeat=length)]
        for one, other in list(pairs(95, 12, 3, 5)) + [(ONE, OTHER)]:
            for order in permutations(range(3)):
                program = ranked(list(order))
                bodies = [run_passes(program, passes) for passes in (one, other)]
                for function, told in product(range(3), rows):
                    try:
                        path = path_of(program, function, told)
                        right = is_inlined(bodies[0], function, path) != is_inlined(bodies[1], function, path)
                    except NoCall:
                        right = False
                    self.assertIs(is_acyclic_separation(one, other, 3, (list(order), function, told)), right)
