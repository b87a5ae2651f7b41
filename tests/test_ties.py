import random
from itertools import combinations, product

from ringstays.errors import InvalidGroup, InvalidWheel
from ringstays.ties import halves, smallest_groups, wheel_kept
from ringstays.wheels import wheel_reachable
from tests import naive_wheels
from tests.cases import Case
from tests.test_keeping import WRONG_GROUPS
from tests.test_wheels import BIG, WRONG_WHEELS


def all_groups(count):
    return [list(group) for size in range(count + 1) for group in combinations(range(count), size)]


def hang_together(wheel, group):
    """By the places below some number, of which the last ones may lack what leads on."""
    most = 4 * sum(wheel) + 12 * len(wheel)
    return len(set(naive_wheels.pieces(wheel, group, most)[:2 * len(wheel)])) == 1


class Examples(Case):
    def test_examples(self):
        self.assertEqual([wheel_kept([2, 2], []), wheel_kept([2, 2], [1]), halves([3, 1], [0])], [False, True, None])
        self.assertEqual([smallest_groups([2, 2]), smallest_groups([1, 3])], [[[0], [1]], [[1]]])


class Errors(Case):
    def test_wrong_wheels(self):
        for wheel in WRONG_WHEELS:
            for ask in (wheel_kept, halves):
                self.gives(InvalidWheel, wheel, ask, wheel, [])
                self.gives(InvalidWheel, wheel, ask, wheel, None)
            self.gives(InvalidWheel, wheel, smallest_groups, wheel)

    def test_wrong_groups(self):
        for group in WRONG_GROUPS:
            for ask in (wheel_kept, halves):
                self.gives(InvalidGroup, group, ask, [2, 2], group)
                self.gives(InvalidGroup, group, ask, [1, 2], group)


class Ties(Case):
    def check(self, wheel, group):
        right = hang_together(wheel, group)
        self.assertIs(wheel_kept(wheel, group), right)
        found = halves(wheel, group)
        self.assertEqual(found is None, right)
        if not right:
            self.check_halves(wheel, group, found)
        return right

    def check_halves(self, wheel, group, found):
        self.assertEqual([type(found), len(found)], [tuple, 2])
        one, other = found
        self.assertTrue(0 <= one < other < 2 * len(wheel))
        pieces = naive_wheels.pieces(wheel, group, 4 * sum(wheel) + 12 * len(wheel))
        self.assertNotEqual(pieces[one], pieces[other])
        self.assertEqual(halves(tuple(wheel), tuple(group)), found)

    def test_samples(self):
        source, told = random.Random(164), []
        for _ in range(1500):
            count = source.randint(1, 5)
            wheel = [source.randint(1, 2 * count + 2) for _ in range(count)]
            told.append(self.check(wheel, source.choice(all_groups(count))))
        self.assertGreater(min(told.count(True), told.count(False)), 300)

    def test_exactly_if_steps_make_it(self):
        for count, most in ((1, 5), (2, 7), (3, 5), (4, 4)):
            for group in all_groups(count):
                made = naive_wheels.made(count, most, group)
                for wheel in product(range(1, most + 1), repeat=count):
                    self.assertIs(wheel_kept(list(wheel), group), wheel in made)

    def test_no_group(self):
        for wheel in product(range(1, 6), repeat=3):
            self.assertIs(wheel_kept(wheel, []), wheel_reachable(wheel))

    def test_smallest_groups(self):
        source = random.Random(1640)
        sizes = set()
        for _ in range(250):
            count = source.randint(1, 5)
            wheel = [source.choice((count, source.randint(1, 2 * count))) for _ in range(count)]
            right = [group for group in all_groups(count) if hang_together(wheel, group)]
            least = min(map(len, right))
            sizes.add(least)
            self.assertEqual(smallest_groups(wheel), sorted(group for group in right if len(group) == least))
        self.assertGreaterEqual(sizes, {0, 1, 2, 3})

    def test_places_that_fall_apart_and_are_tied(self):
        # Each place hangs together with every third one alone.
        self.assertEqual([halves([3, 3, 3], group) is None for group in ([], [0], [0, 1], [0, 1, 2])],
                         [False, False, True, True])
        self.assertEqual(smallest_groups([3, 3, 3]), [[0, 1], [0, 2], [1, 2]])
        self.assertEqual([halves([4], []) is None, halves([4], [0])], [False, None])

    def test_rounds(self):
        # One cycle of jumps that goes round several times.
        for length in (2, 3, 7):
            self.assertIs(self.check([length], []), False)
            self.assertEqual(halves([length], []), (0, 1))
            self.assertEqual(smallest_groups([length]), [[0]])
        self.assertEqual(smallest_groups([1]), [[]])

    def test_long_lengths(self):
        self.assertEqual([wheel_kept([BIG], []), wheel_kept([BIG], [0])], [False, True])
        self.assertEqual([wheel_kept([BIG, BIG - 1], []), halves([BIG, 1], [])], [False, (0, 2)])
        self.assertEqual([wheel_kept([BIG - 1, 2], []), halves([BIG, 2], [])], [True, (0, 1)])
        self.assertEqual(len(smallest_groups([12] * 12)), 12)
        self.assertEqual(smallest_groups([1] * 12), [[]])

    def test_kinds_of_arguments(self):
        self.assertIs(wheel_kept(wheel=(2, 2), group=(1,)), True)
        self.assertEqual(halves(wheel=(3, 1), group=(0,)), None)
        wheel, group = [2, 2], [1]
        found = smallest_groups(wheel=wheel)
        found[0].append(5)
        found.clear()
        self.assertEqual([smallest_groups(wheel), wheel_kept(wheel, group), wheel, group],
                         [[[0], [1]], True, [2, 2], [1]])
