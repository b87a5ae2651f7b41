from itertools import product

from ringstays.bodies import Bodies
from ringstays.errors import InvalidGroup
from ringstays.keeping import foldable_kept, is_reachable_kept
from ringstays.numbers import is_refutation, refutation
from ringstays.programs import Program
from tests import naive, naive_bodies
from tests.cases import HUGE, NO_INTEGERS, NO_LISTS, NO_TUPLES, Case
from tests.test_keeping import WRONG_GROUPS, groups_of
from tests.test_reaching import mixed

PAIR, LOOP = Program([[1], [0]]), Program([[0, 0]])


def numbering_of(sets, numbers):
    """The numbers given to the places in order."""
    rest = iter(numbers)
    return [[(path, next(rest)) for path in [()] + sorted(paths)] for paths in sets]


def places_of(calls, sets):
    """All places (function, path), with the functions that stand there."""
    return [(function, path, naive.end(calls, function, path))
            for function, paths in enumerate(sets) for path in [()] + sorted(paths)]


def led_to(calls, sets, number, function, path, standing):
    return tuple(number[function, path + (call,)] if path + (call,) in sets[function] else number[callee, ()]
                 for call, callee in enumerate(calls[standing]))


def judged(calls, sets, group, numbers):
    """Point [115], word by word: whether the first two hold, and whether all do."""
    places = places_of(calls, sets)
    number = {(function, path): told for (function, path, _), told in zip(places, numbers)}
    leads = {}
    plain = {}
    right = True
    for function, path, standing in places:
        row = led_to(calls, sets, number, function, path, standing)
        mine = number[function, path]
        right = right and leads.setdefault((standing, row), mine) == mine
        if row == tuple(number[callee, ()] for callee in calls[standing]):
            plain.setdefault(standing, []).append(mine == number[standing, ()])
            right = right and (standing not in group or plain[standing][-1])
    return right, right and any(not any(plain.get(function, [])) for function in range(len(calls)))


class Examples(Case):
    def test_examples(self):
        bodies = Bodies(PAIR, [[(0,)], [(0,)]])
        numbering = [[((), 0), ((0,), 1)], [((), 2), ((0,), 3)]]
        self.assertEqual([is_refutation(bodies, [], numbering), is_refutation(bodies, [0], numbering)], [True, False])


class Refutations(Case):
    def test_wrong_groups(self):
        for bodies in (Bodies(PAIR), Bodies(PAIR, [[(0,)], [(0,)]])):
            for group in WRONG_GROUPS:
                self.gives(InvalidGroup, group, refutation, bodies, group)
                self.gives(InvalidGroup, group, is_refutation, bodies, group, None)

    def check_form(self, bodies, found):
        self.assertIs(type(found), list)
        count = bodies.size() + len(bodies.program)
        for row, told in zip(bodies.inlined, found):
            self.assertEqual([type(told), [path for path, _ in told]], [list, [(), *row]])
            self.assertTrue(all(type(one) is tuple and type(one[1]) is int and 0 <= one[1] < count for one in told))

    def test_samples(self):
        told = []
        for program, sets in mixed(115, 500, 3):
            bodies = naive.bodies_of(program, sets)
            for group in groups_of(program):
                found = refutation(bodies, group)
                enough = not any(naive.folded(program.calls, sets, group))
                told.append(enough)
                self.assertEqual(found is None, enough)
                if found is None:
                    continue
                self.check_form(bodies, found)
                numbers = [number for row in found for _, number in row]
                self.assertEqual(judged(program.calls, sets, group, numbers), (True, True))
                self.assertIs(is_refutation(bodies, group, found), True)
                self.assertEqual(refutation(Bodies(program, bodies.inlined), tuple(group)), found)
                self.check_folds(bodies, group, found)
        self.assertGreater(min(told.count(True), told.count(False)), 300)

    def check_folds(self, bodies, group, found):
        """What can be folded has the number of the top."""
        number = {(function, path): told for function, row in enumerate(found) for path, told in row}
        for function, path, _ in foldable_kept(bodies, group):
            reached = naive.end(bodies.program.calls, function, path)
            self.assertEqual(number[function, path], number[reached, ()])

    def test_all_small_numberings(self):
        """The judge by the words; and there is a refutation exactly if the group is not enough."""
        count = 0
        for calls, most in (([[1], [0]], 3), ([[0, 0]], 3), ([[1, 0], [0]], 2), ([[1, 1], []], 2), ([[0], [1]], 2)):
            program = Program(calls)
            for sets in naive_bodies.all_bodies(calls, most):
                bodies = naive.bodies_of(program, sets)
                size = bodies.size() + len(program)
                for group in groups_of(program):
                    refuted = False
                    for numbers in product(range(size), repeat=size):
                        # Numbers named in the order in which they come first, to see each partition once.
                        if any(number > max(numbers[:at], default=-1) + 1 for at, number in enumerate(numbers)):
                            continue
                        right = judged(calls, sets, group, numbers)[1]
                        self.assertIs(is_refutation(bodies, group, numbering_of(sets, numbers)), right)
                        refuted = refuted or right
                        count += right
                    self.assertIs(refuted, not is_reachable_kept(bodies, group))
        self.assertGreater(count, 100)

    def test_a_first_rule_across_bodies(self):
        # The places behind (0,) in both bodies are alike, so they need one number.
        program = Program([[2], [2], [2]])
        bodies = Bodies(program, [[(0,)], [(0,)], [(0,)]])
        found = [[((), 0), ((0,), 3)], [((), 1), ((0,), 3)], [((), 2), ((0,), 3)]]
        self.assertIs(is_refutation(bodies, [], found), True)
        self.assertIs(is_refutation(bodies, [], [found[0], [((), 1), ((0,), 4)], found[2]]), False)
        self.assertIs(is_refutation(bodies, [2], found), False)
        self.assertIs(is_refutation(bodies, [0, 1], found), True)

    def test_large_bodies(self):
        for bodies in (Bodies(PAIR, [naive.chain(1000), naive.chain(1000)]), Bodies(LOOP, [naive.chain(2000)])):
            found = refutation(bodies, [])
            self.assertIs(is_refutation(bodies, [], found), True)
            self.assertIs(is_refutation(bodies, [0], found), False)
            self.assertIsNone(refutation(bodies, [0]))

    def test_wrong_values(self):
        bodies = Bodies(PAIR, [[(0,)], [(0,)]])
        right = [[((), 0), ((0,), 1)], [((), 2), ((0,), 3)]]
        for value in (right, tuple(map(tuple, right)), [[((), 7), ((0,), 0)], [((), HUGE), ((0,), 5)]]):
            self.assertIs(is_refutation(bodies=bodies, group=[], value=value), True)
        top, behind = right[0]
        wrong = NO_LISTS + [[], right[:1], right + [[]], [right[0], right[1][::-1]], [right[0], right[1][:1]],
                            [right[0], right[1] + [((0, 0), 4)]], [right[0], {}], [right[0], None], [right[0], 2], [None, right[1]], [[top], right[1]],
                            [[[(), 0], behind], right[1]], [[((), 0, 0), behind], right[1]],
                            [[([], 0), behind], right[1]], [[top, ([0], 1)], right[1]], [[top, ((1,), 1)], right[1]],
                            [[((), -1), behind], right[1]], [[top, ((False,), 1)], right[1]], [[top, top], right[1]],
                            [[top, behind, behind], right[1]], [[((0,), 0), behind], right[1]]]
        wrong += [[[((), value), behind], right[1]] for value in NO_INTEGERS]
        wrong += [[[(value, 0), behind], right[1]] for value in NO_TUPLES]
        wrong += [[[value, behind], right[1]] for value in NO_TUPLES]
        wrong += [[[top, ((value,), 1)], right[1]] for value in NO_INTEGERS]
        for value in wrong:
            self.assertIs(is_refutation(bodies, [], value), False)

    def test_kinds_of_arguments(self):
        bodies = Bodies(PAIR, [[(0,)], [(0,)]])
        found = refutation(bodies=bodies, group=())
        kept = [list(row) for row in found]
        found[0].clear()
        found.clear()
        self.assertEqual(refutation(bodies, []), kept)
        self.assertIsNone(refutation(bodies, [0]))
        self.assertEqual(bodies, Bodies(PAIR, [[(0,)], [(0,)]]))
