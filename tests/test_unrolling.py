import random
from itertools import product

from ringstays.errors import InvalidPasses, TooMany
from ringstays.passes import run_passes
from ringstays.programs import complete
from ringstays.unrolling import equal_unrolled, first_difference, unrolled_rows
from ringstays.versions import equal_lists, versions
from ringstays.walks import body_on
from tests import naive
from tests.cases import NO_LISTS, Case

WRONG_LISTS = NO_LISTS + [[("now", 0, 0)], [("now", 0, 1), ["now", 0, 1]], [("now", 0, 1)] * 61, [None],
                          [("first", 1, True)], ("first", 0, 0)]


class Examples(Case):
    def test_examples(self):
        one = [("first", 0, 0), ("first", 0, 0), ("now", 1, 0)]
        other = [("first", 1, 0), ("first", 1, 0), ("first", 0, 0), ("first", 1, 0), ("first", 0, 0)]
        self.assertEqual(unrolled_rows(one)[:3], [[(0, 0), (0, 0)], [(0, 0), (0, 0), (0, 0)], []])
        self.assertEqual([equal_unrolled(one, other), first_difference(one, other), first_difference(one, other[:4]),
                          first_difference(one, [])], [True, None, (0, 1), (0, 0)])

    def test_the_example_of_the_point(self):
        passes = [("first", 0, 0), ("first", 0, 1), ("first", 0, 0), ("now", 1, 0), ("first", 1, 1), ("now", 2, 1)]
        self.assertEqual(unrolled_rows(passes), [[(0, 0), (1, 0), (0, 0)], [(0, 2), (0, 0), (1, 0)], [(1, 2), (1, 0)],
                                                 [], [], [], [], []])


class Errors(Case):
    def test_wrong_passes(self):
        for given in WRONG_LISTS:
            self.gives(InvalidPasses, given, unrolled_rows, given)
            for ask in (equal_unrolled, first_difference):
                self.gives(InvalidPasses, given, ask, given, [])
                self.gives(InvalidPasses, given, ask, [("first", 0, 0)], given)
        first, second = [None], [None]
        for ask in (equal_unrolled, first_difference):
            self.gives(InvalidPasses, first, ask, first, second)


class Rows(Case):
    def test_without_unrolling(self):
        source = random.Random(72)
        for _ in range(100):
            one = naive.random_passes(source, source.randint(0, 60), 5, False)
            self.assertEqual(unrolled_rows(one), versions(one))
            other = naive.changed_a_bit(source, one[:59], 5, False)[:60]
            self.assertIs(equal_unrolled(one, other), equal_lists(one, other))

    def test_rows(self):
        self.assertEqual(unrolled_rows([]), [[]] * 8)
        self.assertEqual(unrolled_rows(passes=(("first", 7, 7),) * 2)[7], [(7, 0), (7, 0)])
        # A pass of the mode "first" reads no unrolling.
        self.assertEqual(unrolled_rows([("first", 0, 0), ("first", 1, 0)])[1], [(0, 0)])
        # Unrollings that do not stand last stay in what is read.
        passes = [("first", 0, 0), ("now", 0, 2), ("now", 1, 0)]
        self.assertEqual(unrolled_rows(passes)[:2], [[(0, 0), (2, 0)], [(0, 2)]])

    def test_many_entries(self):
        passes = [("first", 0, 0)] * 30 + [("now", 1, 0)] * 30
        self.assertEqual(list(map(len, unrolled_rows(passes))), [30, 930, 0, 0, 0, 0, 0, 0])
        passes = [("first", 0, 1)] + passes[1:] + [("now", 2, 1)]
        self.assertEqual(unrolled_rows(passes[:60])[1][:3], [(0, 1), (0, 0), (0, 0)])

    def test_new_lists_and_same_arguments(self):
        passes = [("first", 0, 0)]
        found = unrolled_rows(passes)
        self.assertEqual([type(row) for row in [found] + found], [list] * 9)
        self.assertEqual(len({id(row) for row in found}), 8)
        found[0].clear()
        self.assertEqual(unrolled_rows(passes)[0], [(0, 0)])
        self.assertEqual(passes, [("first", 0, 0)])

    def test_as_told(self):
        source = random.Random(73)
        for _ in range(400):
            passes = naive.random_passes(source, source.randint(0, 60), source.randint(1, 8))
            self.assertEqual(unrolled_rows(passes), naive.plain_rows(passes))


class Equal(Case):
    def test_kinds_of_arguments(self):
        self.assertIs(equal_unrolled(one=[("now", 0, 1)], other=(("first", 0, 1),)), True)
        self.assertIsNone(first_difference(one=(), other=[]))
        self.assertEqual(first_difference(one=(), other=[("first", 6, 6)]), (6, 0))

    def test_unrolling_ahead_of_what_reads(self):
        two = [("first", 1, 1), ("now", 0, 1)]
        three = [("now", 0, 1), ("first", 0, 1), ("first", 1, 1)]
        for ahead in ([], [("first", 1, 2)], [("first", 1, 1)], [("first", 1, 2), ("first", 1, 1)]):
            self.assertIs(equal_unrolled(ahead + two, ahead + three), True)
            self.assertEqual(run_passes(complete(3), ahead + two), run_passes(complete(3), ahead + three))
        self.assertIs(equal_unrolled(two, two[:1] + three), False)

    def test_all_short_lists(self):
        """Of all lists of at most three passes on three functions, just those of equal plain rows make the same."""
        kinds = [(mode, f, h) for mode in naive.MODES for f in range(3) for h in range(3) if f != h or mode == "first"]
        lists = [list(passes) for length in range(4) for passes in product(kinds, repeat=length)]
        by_rows, by_bodies = {}, {}
        for at, passes in enumerate(lists):
            by_rows.setdefault(str(unrolled_rows(passes)), []).append(at)
            by_bodies.setdefault(run_passes(complete(3), passes).inlined, []).append(at)
        self.assertEqual(sorted(by_rows.values()), sorted(by_bodies.values()))
        for same in by_rows.values():
            self.assertIs(equal_unrolled(lists[same[0]], lists[same[-1]]), True)

    def test_equal_lists_make_the_same_bodies(self):
        source = random.Random(74)
        for _ in range(150):
            one = naive.random_passes(source, source.randint(0, 6), 3)
            other = naive.led_on(source, one, 8, 60, naive.unroll_linked)
            self.assertIs(equal_unrolled(one, other), True)
            self.assertIsNone(first_difference(one, other))
            program = naive.random_program(source)
            try:
                self.assertEqual(run_passes(program, one), run_passes(program, other))
            except TooMany as error:
                self.assertGreater(error.count, 2000)

    def test_unequal_lists_make_others(self):
        source, shown = random.Random(75), 0
        for _ in range(150):
            one = naive.random_passes(source, source.randint(0, 4), 3)
            other = naive.changed_a_bit(source, one, 3, True)
            try:
                same = all(body_on(one, f, 400) == body_on(other, f, 400) for f in range(3))
            except TooMany:
                continue
            self.assertIs(equal_unrolled(one, other), same)
            shown += not same
        self.assertGreater(shown, 50)


class Differences(Case):
    def test_as_told(self):
        source = random.Random(76)
        for _ in range(300):
            one = naive.random_passes(source, source.randint(0, 10), source.randint(1, 5))
            other = naive.changed_a_bit(source, one, 5, True)
            rows, others = naive.plain_rows(one), naive.plain_rows(other)
            places = [(f, at) for f in range(8) for at in range(100) if rows[f][at:at + 1] != others[f][at:at + 1]]
            self.assertEqual(first_difference(one, other), min(places, default=None))
            self.assertEqual(first_difference(tuple(other), one), min(places, default=None))
            self.assertIs(equal_unrolled(one, other), not places)

    def test_one_row_is_longer(self):
        one = [("now", 3, 0)] * 4
        self.assertEqual(first_difference(one, one[:2]), (3, 2))
        self.assertEqual(first_difference(one[:2], one), (3, 2))
        self.assertEqual(first_difference([], one), (3, 0))
        self.assertEqual(first_difference(one + [("now", 2, 1)], one + [("now", 2, 0)]), (2, 0))
