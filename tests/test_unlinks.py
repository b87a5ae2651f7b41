import random
from itertools import product

from ringstays.errors import InvalidPasses, TooMany, UnequalRows
from ringstays.unlinks import is_unroll_chain, is_unroll_link, unroll_chain
from ringstays.unrolling import equal_unrolled, first_difference
from tests import naive
from tests.cases import NO_LISTS, Case

WRONG_LISTS = NO_LISTS + [[("now", 0, 0)], [("now", 0, 1), ["now", 0, 1]], [("now", 0, 1)] * 61, [None]]
ASKED = [is_unroll_link, unroll_chain, lambda one, other: is_unroll_chain(one, other, [one, other])]


class Examples(Case):
    def test_examples(self):
        first = [("first", 0, 1), ("first", 0, 0), ("now", 1, 0)]
        second = [("first", 0, 1), ("now", 1, 0), ("first", 1, 0), ("first", 0, 0)]
        self.assertEqual([is_unroll_link(first, second), is_unroll_link(second, first), is_unroll_link(first, first)],
                         [True, True, False])
        self.assertEqual([is_unroll_chain(first, second, [first, second]), is_unroll_chain(first, second, [second])],
                         [True, False])


class Errors(Case):
    def test_wrong_passes(self):
        for ask in ASKED:
            for given in WRONG_LISTS:
                self.gives(InvalidPasses, given, ask, given, [])
                self.gives(InvalidPasses, given, ask, [("first", 0, 0)] * 13, given)
            first, second = [None], [None]
            self.gives(InvalidPasses, first, ask, first, second)

    def test_chains(self):
        least = [("first", 0, 0)]
        for one, other, count in ((least * 13, least * 13, 13), (least * 13, [], 13), ([], least * 60, 60),
                                  (least * 12, least * 13, 13), (least * 14, least * 13, 14)):
            self.raises(TooMany, {"count": count}, unroll_chain, one, other)
            self.assertIs(is_unroll_chain(one, other, [one]), one == other)
        for one, other, told in ((least * 12, [], (0, 0)), ([], least * 12, (0, 0)), (least * 12, least * 11, (0, 11)),
                                 (least, [("now", 1, 0)], (0, 0)), ([("now", 5, 2)], (("now", 5, 3),), (5, 0))):
            self.assertEqual(first_difference(one, other), told)
            self.raises(UnequalRows, {"function": told[0], "at": told[1]}, unroll_chain, one, other)
            self.assertIs(is_unroll_chain(one, other, [one, other]), False)


class Links(Case):
    def test_links_of_stage_5(self):
        self.assertIs(is_unroll_link([("now", 0, 1)], [("first", 0, 1)]), True)
        self.assertIs(is_unroll_link(one=[("now", 0, 1), ("first", 2, 2)], other=(("first", 2, 2), ("now", 0, 1))), True)
        # A pass that unrolls 1 changes it.
        self.assertIs(is_unroll_link([("first", 1, 1), ("now", 0, 1)], [("first", 1, 1), ("first", 0, 1)]), False)
        self.assertIs(is_unroll_link([("first", 1, 1), ("now", 0, 1)], [("now", 0, 1), ("first", 1, 1)]), False)
        self.assertIs(is_unroll_link([("first", 1, 1), ("first", 0, 1)], [("first", 0, 1), ("first", 1, 1)]), True)
        self.assertIs(is_unroll_link([("first", 1, 1), ("first", 1, 0)], [("first", 1, 0), ("first", 1, 1)]), False)

    def test_three_for_two(self):
        two = [("first", 1, 1), ("now", 0, 1)]
        three = [("now", 0, 1), ("first", 0, 1), ("first", 1, 1)]
        around = [("now", 2, 1), ("first", 1, 1), ("first", 0, 0)]
        for at in range(4):
            short, long = around[:at] + two + around[at:], around[:at] + three + around[at:]
            self.assertIs(is_unroll_link(short, long), True)
            self.assertIs(is_unroll_link(tuple(long), short), True)
            self.assertIs(is_unroll_link(short, long + [("first", 0, 0)]), False)
            self.assertIs(is_unroll_link(short[:-1], long), False)
        wrong = [three[::-1], [three[1], three[0], three[2]], [three[0], three[2], three[1]], two + [("first", 0, 1)],
                 [("first", 0, 1)] + two, [("now", 0, 2), ("first", 0, 1), ("first", 1, 1)],
                 [("now", 0, 1), ("first", 0, 2), ("first", 1, 1)], [("now", 0, 1), ("first", 2, 1), ("first", 1, 1)],
                 [("now", 0, 1), ("first", 0, 1), ("first", 0, 0)], [("first", 0, 1), ("first", 0, 1), ("first", 1, 1)],
                 [("now", 0, 1), ("now", 0, 1), ("first", 1, 1)], []]
        for other in wrong:
            self.assertIs(is_unroll_link(two, other), False)
            self.assertIs(is_unroll_link(other, two), False)
        for short in (two[::-1], [("first", 1, 1), ("first", 0, 1)], [("first", 0, 0), ("now", 0, 1)],
                      [("first", 1, 2), ("now", 0, 1)], [("first", 1, 1), ("now", 2, 1)]):
            self.assertIs(is_unroll_link(short, three), False)
            self.assertIs(is_unroll_link(three, short), False)

    def test_neighbours_that_repeat(self):
        unroll, read, more = ("first", 1, 1), ("now", 0, 1), ("first", 0, 1)
        self.assertIs(is_unroll_link([unroll, unroll, read], [unroll, read, more, unroll]), True)
        self.assertIs(is_unroll_link([unroll, unroll, read], [read, more, unroll, unroll]), False)
        self.assertIs(is_unroll_link([read, unroll, read], [read, read, more, unroll]), True)

    def test_at_the_limit_of_passes(self):
        long = [("first", 1, 1)] * 58 + [("now", 0, 1)]
        self.assertIs(is_unroll_link(long, long[:57] + [("now", 0, 1), ("first", 0, 1), ("first", 1, 1)]), True)
        self.assertIs(is_unroll_link(long, long), False)

    def test_as_told(self):
        source = random.Random(741)
        for _ in range(200):
            functions = source.randint(1, 4)
            one = naive.random_passes(source, source.randint(1, 8), functions)
            ways = naive.unroll_linked(one)
            for other in ways + [naive.changed_a_bit(source, one, functions, True) for _ in range(4)] + [one]:
                self.assertIs(is_unroll_link(one, other), other in ways)
                self.assertIs(is_unroll_link(other, one), other in ways)

    def test_all_short_lists(self):
        kinds = [(mode, f, h) for mode in naive.MODES for f in range(2) for h in range(2) if f != h or mode == "first"]
        lists = [list(passes) for length in range(4) for passes in product(kinds, repeat=length)]
        for one in lists:
            ways = naive.unroll_linked(one)
            for other in lists:
                self.assertIs(is_unroll_link(one, other), other in ways)


class Chains(Case):
    def check_chain(self, one, other):
        made = unroll_chain(one, other)
        self.assertEqual({type(made)} | {type(passes) for passes in made}, {list})
        self.assertLessEqual(len(made), 4000)
        self.assertEqual([made[0], made[-1]], [list(one), list(other)])
        for ahead, behind in zip(made, made[1:]):
            self.assertLessEqual(len(behind), 60)
            self.assertIn(behind, naive.unroll_linked(ahead))
        self.assertIs(is_unroll_chain(one, other, made), True)
        # Each list is new and stands at one place alone, and the same comes at every call.
        self.assertEqual(len({id(passes) for passes in made + [one, other]}), len(made) + (1 if one is other else 2))
        self.assertEqual(unroll_chain(tuple(one), tuple(other)), made)
        self.assertIs(is_unroll_chain(one, other, tuple(tuple(passes) for passes in made)), True)
        for passes in made[::5]:
            self.assertIs(equal_unrolled(passes, one), True)
        return made

    def test_chains(self):
        source = random.Random(742)
        for _ in range(120):
            one = naive.random_passes(source, source.randint(0, 9), source.randint(1, 5))
            self.check_chain(one, naive.led_on(source, one, source.randint(0, 30), 12, naive.unroll_linked))
            self.assertEqual(self.check_chain(one, one), [one])

    def test_all_short_lists(self):
        kinds = [(mode, f, h) for mode in naive.MODES for f in range(2) for h in range(2) if f != h or mode == "first"]
        lists = [list(passes) for length in range(4) for passes in product(kinds, repeat=length)]
        for one in lists[::3]:
            for other in lists[::2]:
                told = first_difference(one, other)
                if told is None:
                    self.check_chain(one, other)
                else:
                    self.raises(UnequalRows, {"function": told[0], "at": told[1]}, unroll_chain, one, other)

    def test_greatest_lists(self):
        """Many unrollings that many passes read: the lists on the way have up to 48 passes."""
        source = random.Random(743)
        for count in range(1, 12):
            unrolling = [("first", at & 1, at & 1) for at in range(count)]
            one = unrolling + [("now", 2 + at % 6, at & 1) for at in range(12 - count)]
            self.check_chain(one, naive.led_on(source, one, 100, 12, naive.unroll_linked))
        for count in range(5, 11):
            one = [("first", 0, 0)] * count + [("now", at, 0) for at in range(1, 13 - count)]
            made = self.check_chain(one, one[:count] + one[:count - 1:-1])
            self.assertEqual(max(map(len, made)), count + (12 - count) * (count + 1))

    def test_by_name(self):
        one, other = [("first", 1, 1), ("now", 0, 1)], (("now", 0, 1), ("first", 0, 1), ("first", 1, 1))
        made = unroll_chain(one=one, other=other)
        self.assertIs(is_unroll_chain(one=one, other=other, value=made), True)
        made[0].clear()
        made.clear()
        self.assertEqual(one, [("first", 1, 1), ("now", 0, 1)])
        self.check_chain(one, other)


class Judge(Case):
    def test_wrong_values(self):
        one, other = [("first", 1, 1), ("now", 0, 1)], [("first", 0, 1), ("first", 0, 1), ("first", 1, 1)]
        middle = [("now", 0, 1), ("first", 0, 1), ("first", 1, 1)]
        self.assertIs(is_unroll_chain(one, other, [one, middle, other]), True)
        self.assertIs(is_unroll_chain(one, other, [one, middle, one, middle, other]), True)
        wrong = NO_LISTS + [[], (), [one], [other], [one, other], [middle, other], [one, middle], [one, one, middle, other],
                            [one, middle, other, other], [other, middle, one], [one, None, other], [None], [one, [], other],
                            [[one, middle, other]], one, [one, [list(passes) for passes in middle], other],
                            [one, [("now", False, 1)] + middle[1:], other]]
        for value in wrong:
            self.assertIs(is_unroll_chain(one, other, value), False)

    def test_one_list(self):
        self.assertIs(is_unroll_chain([], [], [[]]), True)
        self.assertIs(is_unroll_chain([], (), [()]), True)
        self.assertIs(is_unroll_chain([], [], []), False)

    def test_lists_of_more_than_60_passes_are_none(self):
        one = [("first", 1, 1)] * 59 + [("now", 0, 1)]
        long = one[:58] + [("now", 0, 1), ("first", 0, 1), ("first", 1, 1)]
        self.assertIs(is_unroll_chain(one, one, [one, long, one]), False)
        one, long = one[1:], long[1:]
        self.assertIs(is_unroll_chain(one, one, [one, long, one] * 1), True)
        self.assertIs(is_unroll_chain(one, one, [one, long] * 2100 + [one]), True)
