import random
from itertools import product

from ringstays.errors import InvalidFunction, InvalidPasses, TooMany, Unrolling
from ringstays.needs import least_list, needed, same_body
from ringstays.passes import run_passes
from ringstays.programs import complete
from ringstays.versions import equal_lists
from tests import naive
from tests.cases import HUGE, NO_INTEGERS, NO_LISTS, Case

WRONG_LISTS = NO_LISTS + [[("now", 0, 0)], [("now", 0, 1), ["now", 0, 1]], [("now", 0, 1)] * 61, [None]]
UNROLLING = [("now", 0, 1), ("first", 2, 2)]
KINDS = [(mode, f, h) for mode in naive.MODES for f in range(3) for h in range(3) if f != h]


def body(passes, function, count=3):
    return run_passes(complete(count), passes).inlined[function]


class Examples(Case):
    def test_examples(self):
        passes = [("now", 1, 0), ("now", 0, 1), ("first", 1, 0)]
        self.assertEqual([needed(passes, 0), least_list(passes, 0), needed(passes, 1)],
                         [[0, 1], [("now", 1, 0), ("now", 0, 1)], [0, 2]])
        self.assertIs(same_body(passes, [("first", 1, 0), ("now", 0, 1)], 0), True)


class Errors(Case):
    def test_one_list(self):
        for ask in (needed, least_list):
            for given in WRONG_LISTS:
                self.gives(InvalidPasses, given, ask, given, None)
                self.gives(InvalidPasses, given, ask, given, 0)
            self.raises(Unrolling, {"at": 1}, ask, UNROLLING, None)
            self.raises(Unrolling, {"at": 0}, ask, [("first", 7, 7)] + UNROLLING, 0)
            for function in NO_INTEGERS + [-1, 8, HUGE]:
                self.gives(InvalidFunction, function, ask, [("now", 0, 1)], function)

    def test_two_lists(self):
        for given in WRONG_LISTS:
            self.gives(InvalidPasses, given, same_body, given, UNROLLING, None)
            self.gives(InvalidPasses, given, same_body, UNROLLING, given, None)
        first, second = [None], [None]
        self.gives(InvalidPasses, first, same_body, first, second, 0)
        self.raises(Unrolling, {"at": 1}, same_body, UNROLLING, [("first", 0, 0)], None)
        self.raises(Unrolling, {"at": 0}, same_body, [], [("first", 0, 0)], None)
        for function in NO_INTEGERS + [-1, 8, HUGE]:
            self.gives(InvalidFunction, function, same_body, [], [], function)


class Needs(Case):
    def test_chains_of_reading(self):
        passes = [("first", 3, 4), ("first", 2, 3), ("now", 2, 3), ("now", 3, 0), ("first", 1, 2), ("now", 1, 2),
                  ("now", 2, 0), ("now", 0, 1)]
        self.assertEqual(needed(passes, 0), [0, 1, 2, 4, 5, 7])
        self.assertEqual(needed(passes, 3), [0, 3])
        self.assertEqual([needed(passes, 7), least_list(passes, 7)], [[], []])
        # What is inlined with its original body is not read.
        self.assertEqual(needed([("now", 1, 2), ("first", 0, 1)], 0), [1])
        self.assertEqual(needed([("now", 1, 2), ("first", 0, 1), ("now", 0, 1), ("now", 1, 2)], 0), [0, 1, 2])

    def test_by_the_words(self):
        source = random.Random(84)
        for _ in range(300):
            passes = naive.random_passes(source, source.randint(0, 12), source.randint(2, 8), False)
            for function in range(8):
                found = set()
                for at in reversed(range(len(passes))):
                    changed = passes[at][1]
                    if changed == function or any(passes[one][0] == "now" and passes[one][2] == changed
                                                  for one in found):
                        found.add(at)
                self.assertEqual(needed(passes, function), sorted(found))
                self.assertEqual(least_list(passes, function), [passes[at] for at in sorted(found)])

    def test_the_body_stays(self):
        source, checked = random.Random(85), 0
        while checked < 100:
            passes = naive.random_passes(source, source.randint(0, 8), 4, False)
            program = naive.random_program(source, 5)
            try:
                whole = run_passes(program, passes)
            except TooMany:
                continue
            checked += 1
            for function in range(len(program)):
                left = run_passes(program, least_list(passes, function))
                self.assertEqual(left.inlined[function], whole.inlined[function])

    def test_no_shorter_list_makes_the_body(self):
        lists = [list(passes) for length in range(3) for passes in product(KINDS, repeat=length)]
        bodies = {}
        for passes in lists:
            bodies.setdefault(body(passes, 0), len(passes))
        source = random.Random(86)
        for _ in range(500):
            passes = naive.random_passes(source, source.randint(0, 4), 3, False)
            least = least_list(passes, 0)
            self.assertEqual(bodies.get(body(passes, 0), len(least)), len(least))

    def test_same_body_by_bodies(self):
        lists = [list(passes) for length in range(3) for passes in product(KINDS, repeat=length)]
        bodies = [[body(passes, function) for function in range(3)] for passes in lists]
        told = set()
        for one in range(0, len(lists), 5):
            for other in range(len(lists)):
                for function in range(3):
                    same = bodies[one][function] == bodies[other][function]
                    told.add(same)
                    self.assertIs(same_body(lists[one], lists[other], function), same)
        self.assertEqual(told, {True, False})

    def test_same_body_of_longer_lists(self):
        source, told = random.Random(87), []
        for _ in range(400):
            one = naive.random_passes(source, source.randint(2, 6), 3, False)
            other = naive.led_on(source, one, 5, 8, naive.linked)
            if source.random() < 0.6:
                other = naive.changed_a_bit(source, other, 3, False)
            for function in range(3):
                least = [least_list(passes, function) for passes in (one, other)]
                same = same_body(one, other, function)
                self.assertIs(same, equal_lists(*least))
                self.assertIs(same, body(one, function) == body(other, function))
                told.append(same and not equal_lists(one, other))
        self.assertGreater(sum(told), 50)

    def test_kinds_of_arguments(self):
        passes = [("now", 1, 0), ("now", 0, 1), ("first", 1, 0)]
        self.assertEqual(needed(passes=tuple(passes), function=0), [0, 1])
        self.assertEqual(least_list(passes=tuple(passes), function=0), passes[:2])
        self.assertIs(same_body(one=passes, other=tuple(passes), function=0), True)
        for ask in (needed, least_list):
            found = ask(passes, 0)
            self.assertIs(type(found), list)
            found.clear()
            self.assertEqual(len(ask(passes, 0)), 2)
        least_list(passes[:2], 0).clear()
        self.assertEqual(passes, [("now", 1, 0), ("now", 0, 1), ("first", 1, 0)])
