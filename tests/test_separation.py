import random
from itertools import product

from ringstays.bodies import is_inlined
from ringstays.cuts import cut
from ringstays.errors import InvalidPasses, TooMany, Unrolling
from ringstays.passes import run_passes
from ringstays.programs import Program, is_path, names
from ringstays.separation import is_separation, parting_group, separating_program, separation
from ringstays.versions import equal_lists
from ringstays.walks import is_inlined_at
from tests import naive
from tests.cases import HUGE, NO_INTEGERS, NO_LISTS, NO_TUPLES, Case

WRONG_LISTS = NO_LISTS + [[("now", 0, 0)], [("now", 0, 1), ["now", 0, 1]], [("now", 0, 1)] * 61, [None]]
UNROLLING = [("now", 0, 1), ("first", 2, 2)]
# 0 and 1 put each other in, each time all that is there.
SWELLING = [("now", at & 1, 1 - (at & 1)) for at in range(60)]


ASKED = [parting_group, separation, separating_program, lambda one, other: is_separation(one, other, None)]


def pairs(seed, count, most):
    """Pairs of pass lists without unrolling: many that differ a bit, some that differ much, some equal ones."""
    source = random.Random(seed)
    for _ in range(count):
        functions = source.randint(2, 8)
        one = naive.random_passes(source, source.randint(0, most), functions, False)
        kind = source.randrange(7)
        if kind == 0:
            other = naive.random_passes(source, source.randint(0, most), functions, False)
        elif kind == 1:
            other = naive.led_on(source, one, 6, 60, naive.linked)
        elif kind == 2:
            other = source.sample(one, len(one))
        else:
            other = naive.changed_a_bit(source, one, functions, False)[:60]
        yield one, other


class Examples(Case):
    def test_examples(self):
        one, other = [("now", 0, 1), ("now", 0, 2)], [("now", 0, 2), ("now", 0, 1)]
        self.assertEqual([parting_group(one, other), is_separation(one, other, (0, (1, 2))),
                          is_separation(one, other, (0, (1, 2, 1)))], [[0, 1, 2], True, False])
        self.assertEqual([parting_group(one, one), separating_program(one, one)], [None, None])


class Errors(Case):
    def test_wrong_passes(self):
        for ask in ASKED:
            for given in WRONG_LISTS:
                self.gives(InvalidPasses, given, ask, given, [])
                self.gives(InvalidPasses, given, ask, [], given)
                self.gives(InvalidPasses, given, ask, UNROLLING, given)
                self.gives(InvalidPasses, given, ask, given, UNROLLING)
            first, second = [None], [None]
            self.gives(InvalidPasses, first, ask, first, second)

    def test_unrolling(self):
        for ask in ASKED:
            self.raises(Unrolling, {"at": 1}, ask, UNROLLING, [("first", 0, 0)])
            self.raises(Unrolling, {"at": 1}, ask, [("now", 1, 0)] * 2, tuple(UNROLLING))
            self.raises(Unrolling, {"at": 1}, ask, UNROLLING, UNROLLING)


class Separations(Case):
    def check_pair(self, one, other):
        """All three answers for a pair, each judged by what its point asks."""
        group, found, made = parting_group(one, other), separation(one, other), separating_program(one, other)
        self.assertEqual([group is None, found is None, made is None], [equal_lists(one, other)] * 3)
        if group is not None:
            self.check_group(one, other, group)
            self.check_separation(one, other, found)
            self.check_program(one, other, made)

    def check_group(self, one, other, group):
        self.assertIs(type(group), list)
        self.assertEqual(group, sorted(set(group)))
        self.assertLessEqual(len(group), 3)
        self.assertTrue(all(function in range(8) for function in group))
        self.assertIs(equal_lists(cut(one, group), cut(other, group)), False)

    def check_separation(self, one, other, found):
        self.assertEqual([type(found), len(found), type(found[1])], [tuple, 2, tuple])
        function, path = found
        count = max(len(one), len(other))
        self.assertIn(function, range(8))
        self.assertTrue(1 <= len(path) <= count * (count + 1) // 2)
        inlined = naive.walk(one, function, path)[0], naive.walk(other, function, path)[0]
        self.assertEqual([len(taken) == len(path) for taken in inlined].count(True), 1)
        self.assertIs(is_separation(one, other, found), True)
        self.assertIs(is_separation(other, one, found), True)

    def check_program(self, one, other, made):
        self.assertEqual([type(made), len(made), type(made[0])], [tuple, 3, Program])
        program, function, path = made
        self.assertLessEqual(sum(1 for row in program.calls if row), 3)
        self.assertIs(is_path(program, function, path), True)
        told = names(program, function, path)
        self.assertIsNot(is_inlined_at(one, function, told), is_inlined_at(other, function, told))

    def test_pairs(self):
        for one, other in pairs(641, 500, 12):
            self.check_pair(one, other)

    def test_long_pairs(self):
        for one, other in pairs(642, 60, 60):
            self.check_pair(one, other)

    def test_swelling_lists_that_differ_deep_inside(self):
        for length in (5, 12, 25, 60):
            one = SWELLING[:length]
            for at in range(0, length, 1 + length // 12):
                self.check_pair(one, one[:at] + one[at + 1:])
                self.check_pair(one, one[:at] + [("first",) + one[at][1:]] + one[at + 1:])
                self.check_pair(one, one[:at] + [one[at]] * 2 + one[at + 1:-1])
                self.check_pair(one, one[:at] + [("now", one[at][1], 2)] + one[at + 1:])

    def test_lists_of_the_same_passes(self):
        """Where each two functions tell nothing, and behind some lines of calls the lists agree, too."""
        one = [("now", 0, 1), ("now", 0, 2), ("now", 1, 2)]
        other = [("now", 1, 2), ("now", 0, 2), ("now", 0, 1)]
        self.assertEqual(len(parting_group(one, other)), 3)
        self.check_pair(one, other)
        self.check_pair(other, one)
        source = random.Random(644)
        for _ in range(400):
            one = naive.random_passes(source, source.randint(3, 7), 3, False)
            self.check_pair(one, source.sample(one, len(one)))

    def test_all_short_pairs(self):
        kinds = [(mode, f, h) for mode in naive.MODES for f in range(3) for h in range(3) if f != h]
        lists = [list(passes) for length in range(3) for passes in product(kinds, repeat=length)]
        for one in lists[::7]:
            for other in lists:
                self.check_pair(one, other)

    def test_a_program_shows_it(self):
        """What the walk tells of the separating programs, run_passes makes."""
        shown = 0
        for one, other in pairs(643, 100, 5):
            made = separating_program(one, other)
            if made is None:
                continue
            program, function, path = made
            try:
                both = [is_inlined(run_passes(program, passes), function, path) for passes in (one, other)]
            except TooMany:
                continue
            self.assertEqual(sorted(both), [False, True])
            shown += 1
        self.assertGreater(shown, 40)

    def test_kinds_of_arguments(self):
        one, other = [("now", 0, 1), ("now", 0, 2)], [("now", 0, 2), ("now", 0, 1)]
        for ask in (parting_group, separation, separating_program):
            found = ask(one, other)
            self.assertEqual(ask(one=tuple(one), other=tuple(other)), found)
            self.assertEqual(ask(one, other), found)
            self.assertIsNone(ask(one, tuple(one)))
            self.assertIsNone(ask([], ()))
        parting_group(one, other).clear()
        self.assertEqual(len(parting_group(one, other)), 3)
        self.assertIs(is_separation(one=tuple(one), other=other, value=(0, (2, 1))), True)
        self.assertEqual([one, other], [[("now", 0, 1), ("now", 0, 2)], [("now", 0, 2), ("now", 0, 1)]])


class Judge(Case):
    def test_wrong_values(self):
        one, other = [("now", 0, 1), ("now", 0, 2)], [("now", 0, 2), ("now", 0, 1)]
        self.assertIs(is_separation(one, other, (0, (1, 2))), True)
        wrong = NO_TUPLES + [(), (0,), (0, (1, 2), 0), [0, (1, 2)], (0, [1, 2]), (0, None), (0, 1), (0, ()), (1, (1, 2)),
                             (8, (1, 2)), (-1, (1, 2)), (HUGE, (1, 2)), (0, (1, 8)), (0, (1, -1)), (0, (1, HUGE)),
                             (0, (1,)), (0, (1, 1)), ((1, 2), 0)]
        wrong += [(value, (1, 2)) for value in NO_INTEGERS] + [(0, (1, value)) for value in NO_INTEGERS]
        for value in wrong:
            self.assertIs(is_separation(one, other, value), False)

    def test_equal_lists_have_none(self):
        for one, other in (([], []), ([("now", 0, 1)], [("first", 0, 1)])):
            for value in (None, (0, ()), (0, (1,)), (0, (1, 1))):
                self.assertIs(is_separation(one, other, value), False)

    def test_the_limit(self):
        # Within each of 4 calls of 1 stand 4 of 0, and within each of these 3 of 3: 68 calls by 11 passes.
        one, path = self.towering(3, 4, 4)
        self.check_limit(one, path, 66)
        # 60 passes: 9030 calls; the limit is 1830.
        one, path = self.towering(10, 20, 30)
        self.check_limit(one, path[:1900], 1830)
        self.assertIs(is_separation(one, [], (2, (1,) * 2001)), False)

    def towering(self, lowest, middle, highest):
        passes = [("now", 0, 3)] * lowest + [("now", 1, 0)] * middle + [("now", 2, 1)] * highest
        path = ((1,) + ((0,) + (3,) * lowest) * middle) * highest
        return passes, path[:2000]

    def check_limit(self, one, path, most):
        self.assertGreater(len(path), most)
        self.assertIs(is_inlined_at(one, 2, path), True)
        # Of two numbers of passes the greater one counts, whichever list it is that has them.
        for other in ([], [("now", 7, 0)]):
            for length in (1, 2, most - 1, most):
                self.assertIs(is_separation(one, other, (2, path[:length])), True)
                self.assertIs(is_separation(other, one, (2, path[:length])), True)
            self.assertIs(is_separation(one, other, (2, path[:most + 1])), False)
            self.assertIs(is_separation(other, one, (2, path[:most + 1])), False)

    def test_one_pass(self):
        self.assertIs(is_separation([("now", 0, 1)], [], (0, (1,))), True)
        self.assertIs(is_separation([("now", 0, 1)], [], (0, (1, 1))), False)
        self.assertIs(is_separation([("now", 0, 1)], [], (1, (1,))), False)
