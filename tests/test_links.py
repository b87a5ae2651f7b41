import random
from itertools import product

from ringstays.errors import InvalidPasses, TooMany, UnequalLists, Unrolling
from ringstays.links import chain, is_chain, is_link
from ringstays.separation import is_separation
from ringstays.versions import equal_lists
from tests import naive
from tests.cases import NO_LISTS, Case

WRONG_LISTS = NO_LISTS + [[("now", 0, 0)], [("now", 0, 1), ["now", 0, 1]], [("now", 0, 1)] * 61, [None]]
UNROLLING = [("now", 0, 1), ("first", 2, 2)]
ASKED = [is_link, chain, lambda one, other: is_chain(one, other, [one, other])]


class Examples(Case):
    def test_examples(self):
        one, middle = [("now", 0, 1), ("first", 2, 0)], [("first", 2, 0), ("now", 0, 1)]
        other = [("first", 2, 0), ("first", 0, 1)]
        self.assertEqual([is_link(one, middle), is_link(middle, other), is_link(one, other),
                          is_chain(one, other, [one, middle, other])], [True, True, False, True])


class Errors(Case):
    def test_wrong_passes(self):
        for ask in ASKED:
            for given in WRONG_LISTS:
                self.gives(InvalidPasses, given, ask, given, [])
                self.gives(InvalidPasses, given, ask, [], given)
                self.gives(InvalidPasses, given, ask, UNROLLING, given)
                self.gives(InvalidPasses, given, ask, given, UNROLLING * 20)
            first, second = [None], [None]
            self.gives(InvalidPasses, first, ask, first, second)

    def test_unrolling(self):
        for ask in ASKED:
            self.raises(Unrolling, {"at": 1}, ask, UNROLLING, [("first", 0, 0)])
            self.raises(Unrolling, {"at": 1}, ask, [("now", 1, 0)] * 60, tuple(UNROLLING))
            self.raises(Unrolling, {"at": 1}, ask, UNROLLING, UNROLLING)
            self.raises(Unrolling, {"at": 1}, ask, UNROLLING * 20, [])

    def test_chains(self):
        least = [("now", 0, 1)]
        for one, other, count in ((least * 25, least * 25, 25), (least * 25, [], 25), ([], least * 60, 60),
                                  (least * 24, least * 25, 25), (least * 26, least * 25, 26)):
            self.raises(TooMany, {"count": count}, chain, one, other)
            self.assertIs(is_chain(one, other, [one]), one == other)
        for one, other in ((least * 24, []), ([], least * 24), (least * 24, least * 23), (least, [("now", 1, 0)]),
                           ([("now", 0, 1), ("now", 0, 2)], (("now", 0, 2), ("now", 0, 1)))):
            with self.assertRaises(UnequalLists) as caught:
                chain(one, other)
            told = (caught.exception.function, caught.exception.path)
            self.assertIs(is_separation(one, other, told), True)
            self.assertIs(is_chain(one, other, [one, other]), False)
            with self.assertRaises(UnequalLists) as again:
                chain(tuple(one), list(other))
            self.assertEqual((again.exception.function, again.exception.path), told)


class Links(Case):
    def test_swaps(self):
        now, first, apart = ("now", 0, 1), ("first", 1, 0), ("now", 2, 3)
        self.assertIs(is_link([apart, now], [now, apart]), True)
        self.assertIs(is_link(one=(first, apart), other=[apart, first]), True)
        # 0 reads 1, which the other one changes.
        self.assertIs(is_link([now, first], [first, now]), False)
        self.assertIs(is_link([now, now], [now, now]), False)
        # Not neighbours, and two swaps at once.
        self.assertIs(is_link([apart, now, ("now", 4, 5)], [("now", 4, 5), now, apart]), False)
        self.assertIs(is_link([apart, now, apart, now], [now, apart, now, apart]), False)
        self.assertIs(is_link([apart, now, apart], [now, apart, apart]), True)

    def test_changes_of_mode(self):
        self.assertIs(is_link([("now", 0, 1)], [("first", 0, 1)]), True)
        self.assertIs(is_link([("first", 0, 1)], [("now", 0, 1)]), True)
        self.assertIs(is_link([("now", 0, 1), ("now", 1, 0)], [("now", 0, 1), ("first", 1, 0)]), False)
        self.assertIs(is_link([("now", 0, 1), ("now", 1, 0)], [("first", 0, 1), ("now", 1, 0)]), True)
        self.assertIs(is_link([("now", 0, 1), ("now", 0, 1)], [("first", 0, 1), ("first", 0, 1)]), False)
        self.assertIs(is_link([("now", 0, 1)], [("now", 0, 2)]), False)
        self.assertIs(is_link([("now", 0, 1)], [("now", 2, 1)]), False)
        self.assertIs(is_link([("now", 0, 1)], [("first", 0, 2)]), False)

    def test_no_list_goes_to_itself_or_to_another_length(self):
        for passes in ([], [("now", 0, 1)], [("now", 0, 1)] * 60):
            self.assertIs(is_link(passes, passes), False)
            self.assertIs(is_link(passes, tuple(passes)), False)
        for count in (0, 1, 59):
            self.assertIs(is_link([("now", 0, 1)] * count, [("now", 0, 1)] * (count + 1)), False)
            self.assertIs(is_link([("now", 0, 1)] * (count + 1), [("now", 0, 1)] * count), False)

    def test_as_told(self):
        source = random.Random(62)
        for _ in range(150):
            functions = source.randint(2, 6)
            one = naive.random_passes(source, source.randint(1, 8), functions, False)
            ways = naive.linked(one)
            near = ways + [naive.changed_a_bit(source, one, functions, False) for _ in range(4)] + [one]
            for other in near:
                self.assertIs(is_link(one, other), other in ways)
                self.assertIs(is_link(other, one), other in ways)

    def test_all_short_lists(self):
        kinds = [(mode, f, h) for mode in naive.MODES for f in range(3) for h in range(3) if f != h]
        lists = [list(passes) for passes in product(kinds, repeat=2)]
        for one in lists:
            ways = naive.linked(one)
            for other in lists:
                self.assertIs(is_link(one, other), other in ways)


class Chains(Case):
    def check_chain(self, one, other):
        made = chain(one, other)
        self.assertEqual({type(made)} | {type(passes) for passes in made}, {list})
        self.assertLessEqual(len(made), 1000)
        self.assertEqual([made[0], made[-1]], [list(one), list(other)])
        for ahead, behind in zip(made, made[1:]):
            self.assertIn(behind, naive.linked(ahead))
        self.assertIs(is_chain(one, other, made), True)
        # Each list is new and stands at one place alone, and the same comes at every call.
        self.assertEqual(len({id(passes) for passes in made + [one, other]}), len(made) + (1 if one is other else 2))
        self.assertEqual(chain(tuple(one), tuple(other)), made)
        self.assertIs(is_chain(one, other, tuple(tuple(passes) for passes in made)), True)
        return made

    def test_chains(self):
        source = random.Random(621)
        for _ in range(150):
            one = naive.random_passes(source, source.randint(0, 12), source.randint(2, 8), False)
            self.check_chain(one, naive.led_on(source, one, source.randint(0, 30), 60, naive.linked))
            self.assertEqual(self.check_chain(one, one), [one])

    def test_greatest_lists(self):
        source = random.Random(622)
        for _ in range(12):
            one = naive.random_passes(source, 24, 8, False)
            self.check_chain(one, naive.led_on(source, one, 80, 60, naive.linked))
        # All of these may change places, and be of either mode.
        one = [("now", function, 7 - function % 2) for function in range(6) for _ in range(4)]
        other = [("first",) + passes[1:] for passes in reversed(one)]
        self.assertIs(equal_lists(one, other), True)
        self.assertGreater(len(self.check_chain(one, other)), 200)

    def test_by_name(self):
        made = chain(one=[("now", 0, 1)], other=(("first", 0, 1),))
        self.assertEqual(made, [[("now", 0, 1)], [("first", 0, 1)]])
        self.assertIs(is_chain(one=[("now", 0, 1)], other=[("first", 0, 1)], value=made), True)

    def test_new_lists_and_same_arguments(self):
        one, other = [("now", 0, 1), ("now", 2, 3)], [("now", 2, 3), ("first", 0, 1)]
        made = chain(one, other)
        made[0].clear()
        made.clear()
        self.assertEqual([one, other], [[("now", 0, 1), ("now", 2, 3)], [("now", 2, 3), ("first", 0, 1)]])
        self.assertGreater(len(chain(one, other)), 2)


class Judge(Case):
    def test_wrong_values(self):
        one, other = [("now", 0, 1), ("now", 2, 3)], [("now", 2, 3), ("first", 0, 1)]
        middle = [("now", 2, 3), ("now", 0, 1)]
        self.assertIs(is_chain(one, other, [one, middle, other]), True)
        self.assertIs(is_chain(one, other, [one, middle, one, middle, other]), True)
        wrong = NO_LISTS + [[], (), [one], [other], [one, other], [middle, other], [one, middle], [one, one, middle, other],
                            [one, middle, other, other], [other, middle, one], [one, None, other], [None], [one, [], other],
                            [[one, middle, other]], one, [one, [("now", 2, 3), ["now", 0, 1]], other],
                            [one, [("now", 2, 3), ("now", False, 1)], other], [one, middle, None], [[("now", 0, 1)], other],
                            [one, [("first", 0, 0), ("now", 0, 1)], other]]
        for value in wrong:
            self.assertIs(is_chain(one, other, value), False)

    def test_one_list(self):
        self.assertIs(is_chain([], [], [[]]), True)
        self.assertIs(is_chain([], (), [()]), True)
        self.assertIs(is_chain([], [], []), False)
        self.assertIs(is_chain([], [("now", 0, 1)], [[]]), False)

    def test_long_chains_of_long_lists(self):
        one = [("now", 0, 1)] + [("now", 0, 2)] * 59
        other = [("first", 0, 1)] + one[1:]
        self.assertIs(is_chain(one, other, [one, other] * 700), True)
        self.assertIs(is_chain(one, one, [one, other] * 700), False)
        self.assertIs(is_chain(one, one, [one, other] * 700 + [one]), True)
