import random
from itertools import combinations, product

from ringstays.cuts import cut
from ringstays.errors import InvalidPasses, TooMany, Unrolling
from ringstays.passes import run_passes
from ringstays.programs import complete
from ringstays.versions import equal_lists, versions
from ringstays.walks import is_inlined_at
from tests import naive
from tests.cases import NO_LISTS, Case

WRONG_LISTS = NO_LISTS + [[("now", 0, 0)], [("now", 0, 1), ["now", 0, 1]], [("now", 0, 1)] * 61, [None],
                          [("first", 1, 1), ("now", 0, True)], ("now", 0, 1)]
UNROLLING = [("now", 0, 1), ("first", 2, 2), ("first", 1, 1)]


class Examples(Case):
    def test_examples(self):
        found = versions([("first", 1, 2), ("now", 0, 1), ("now", 1, 0), ("now", 1, 2)])
        self.assertEqual(found[:3], [[(1, 1)], [(2, 0), (0, 1), (2, 0)], []])
        self.assertEqual([equal_lists([("now", 0, 1)], [("first", 0, 1)]), equal_lists([("now", 0, 1)], [])],
                         [True, False])
        self.raises(Unrolling, {"at": 1}, versions, [("now", 0, 1), ("first", 2, 2)])


class Errors(Case):
    def test_wrong_passes(self):
        for given in WRONG_LISTS:
            self.gives(InvalidPasses, given, versions, given)
            self.gives(InvalidPasses, given, equal_lists, given, [])
            self.gives(InvalidPasses, given, equal_lists, [], given)
            self.gives(InvalidPasses, given, equal_lists, UNROLLING, given)
            self.gives(InvalidPasses, given, equal_lists, given, UNROLLING)
        first, second = [None], [None]
        self.gives(InvalidPasses, first, equal_lists, first, second)

    def test_unrolling(self):
        self.raises(Unrolling, {"at": 1}, versions, UNROLLING)
        self.raises(Unrolling, {"at": 59}, versions, (("now", 0, 1),) * 59 + (("first", 7, 7),))
        self.raises(Unrolling, {"at": 1}, equal_lists, UNROLLING, [("first", 0, 0)])
        self.raises(Unrolling, {"at": 0}, equal_lists, [], [("first", 0, 0)])


class Versions(Case):
    def test_rows(self):
        self.assertEqual(versions([]), [[]] * 8)
        found = versions(passes=(("now", 0, 1), ("first", 1, 0), ("now", 1, 0), ("first", 0, 1), ("now", 7, 0)))
        self.assertEqual(found, [[(1, 0), (1, 0)], [(0, 0), (0, 1)], [], [], [], [], [], [(0, 2)]])
        self.assertEqual(versions([("now", 0, 1)] * 59 + [("now", 1, 0)])[1], [(0, 59)])

    def test_new_lists_and_same_arguments(self):
        passes = [("now", 0, 1)]
        found = versions(passes)
        self.assertEqual([type(found)] + [type(row) for row in found], [list] * 9)
        self.assertEqual(len({id(row) for row in found}), 8)
        found[0].clear()
        found.clear()
        self.assertEqual(versions(passes)[0], [(1, 0)])
        self.assertEqual(passes, [("now", 0, 1)])

    def test_as_told(self):
        source = random.Random(61)
        for _ in range(200):
            passes = naive.random_passes(source, source.randint(0, 60), source.randint(2, 8), False)
            self.assertEqual(versions(passes), naive.rows(passes))


class EqualLists(Case):
    def test_kinds_of_arguments(self):
        self.assertIs(equal_lists(one=[("now", 0, 1)], other=(("first", 0, 1),)), True)
        self.assertIs(equal_lists((), []), True)

    def test_three_functions_part_where_two_do_not(self):
        one, other = [("now", 0, 1), ("now", 0, 2)], [("now", 0, 2), ("now", 0, 1)]
        self.assertIs(equal_lists(one, other), False)
        for group in combinations(range(8), 2):
            self.assertIs(equal_lists(cut(one, group), cut(other, group)), True)

    def test_links_lead_to_equal_lists(self):
        source = random.Random(62)
        for _ in range(150):
            one = naive.random_passes(source, source.randint(0, 14), source.randint(2, 6), False)
            other = naive.led_on(source, one, 8, 60, naive.linked)
            self.assertIs(equal_lists(one, other), True)
            # [65]: the numbers of passes of each function and callee agree, and no pass can be struck.
            self.assertEqual(sorted(one_pass[1:] for one_pass in one), sorted(one_pass[1:] for one_pass in other))
            for at in range(len(one)):
                self.assertIs(equal_lists(one, one[:at] + one[at + 1:]), False)
                self.assertIs(equal_lists(one[:at] + one[at + 1:], other), False)

    def test_equal_lists_make_the_same_bodies(self):
        source = random.Random(63)
        for _ in range(150):
            one = naive.random_passes(source, source.randint(0, 6), 3, False)
            other = naive.led_on(source, one, 5, 60, naive.linked)
            program = naive.random_program(source)
            try:
                self.assertEqual(run_passes(program, one), run_passes(program, other))
            except TooMany as error:
                self.assertGreater(error.count, 2000)

    def test_all_short_lists(self):
        """Of all lists of at most three passes on three functions, just the equal ones make the same bodies."""
        kinds = [(mode, f, h) for mode in naive.MODES for f in range(3) for h in range(3) if f != h]
        lists = [list(passes) for length in range(4) for passes in product(kinds, repeat=length)]
        by_rows, by_bodies = {}, {}
        for at, passes in enumerate(lists):
            made = run_passes(complete(3), passes)
            by_rows.setdefault(str(versions(passes)), []).append(at)
            by_bodies.setdefault(made.inlined, []).append(at)
        self.assertEqual(sorted(by_rows.values()), sorted(by_bodies.values()))
        for same in by_rows.values():
            self.assertIs(equal_lists(lists[same[0]], lists[same[-1]]), True)

    def test_unequal_lists_differ_at_a_short_path(self):
        source = random.Random(64)
        for _ in range(40):
            one = naive.random_passes(source, 2, 3, False)
            other = naive.random_passes(source, 2, 3, False)
            paths = [path for length in range(1, 4) for path in product(range(3), repeat=length)]
            same = all(is_inlined_at(one, f, path) is is_inlined_at(other, f, path) for f in range(3) for path in paths)
            self.assertIs(equal_lists(one, other), same)
