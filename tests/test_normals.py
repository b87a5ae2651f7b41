import random

from ringstays.errors import InvalidPasses, TooMany
from ringstays.normals import is_normal, normal
from ringstays.passes import is_pass_list
from ringstays.unrolling import unrolled_rows
from tests import naive
from tests.cases import NO_LISTS, Case

WRONG_LISTS = NO_LISTS + [[("now", 0, 0)], [("first", 0, 1), ["first", 0, 1]], [("first", 0, 1)] * 61, [None],
                          [("first", 1, True)], ("first", 0, 0)]


def plainly_normal(passes):
    for at, (mode, _, callee) in enumerate(passes):
        ahead = [one for one in passes[:at] if one[1] == callee]
        if mode == "now" and (not ahead or ahead[-1][2] == callee):
            return False
    return True


class Examples(Case):
    def test_examples(self):
        first = [("first", 0, 1), ("first", 0, 0), ("now", 1, 0)]
        second = [("first", 0, 1), ("now", 1, 0), ("first", 1, 0), ("first", 0, 0)]
        self.assertEqual([is_normal(first), is_normal(second), is_normal([("now", 0, 1)]), is_normal([("first", 0, 1)])],
                         [False, True, False, True])


class IsNormal(Case):
    def test_wrong_values(self):
        for value in WRONG_LISTS:
            self.assertIs(is_normal(value), False)
        self.assertIs(is_normal([("first", 0, 1)] * 60), True)

    def test_values(self):
        self.assertIs(is_normal([]), True)
        self.assertIs(is_normal(value=()), True)
        self.assertIs(is_normal((("first", 1, 0), ("now", 0, 1))), True)
        self.assertIs(is_normal([("first", 1, 1), ("now", 0, 1)]), False)
        self.assertIs(is_normal([("first", 1, 1), ("first", 1, 0), ("now", 0, 1)]), True)
        self.assertIs(is_normal([("first", 1, 0), ("first", 1, 1), ("now", 0, 1)]), False)
        self.assertIs(is_normal([("first", 0, 1), ("now", 0, 1)]), False)

    def test_as_told(self):
        source = random.Random(731)
        normals = 0
        for _ in range(600):
            passes = naive.random_passes(source, source.randint(0, 5), source.randint(2, 4))
            self.assertIs(is_normal(passes), plainly_normal(passes))
            normals += plainly_normal(passes)
            if plainly_normal(passes):
                self.assertEqual(unrolled_rows(passes), naive.rows(passes))
        self.assertTrue(100 < normals < 500)


class Normal(Case):
    def test_wrong_passes(self):
        for given in WRONG_LISTS:
            self.gives(InvalidPasses, given, normal, given)

    def test_as_told(self):
        source, made = random.Random(732), 0
        for _ in range(400):
            passes = naive.random_passes(source, source.randint(0, source.choice([8, 20, 60])), source.randint(1, 8))
            rows = naive.plain_rows(passes)
            count = sum(map(len, rows))
            if count > 60:
                self.raises(TooMany, {"count": count}, normal, passes)
                continue
            found = normal(passes)
            self.assertIs(is_pass_list(found), True)
            self.assertIs(plainly_normal(found), True)
            self.assertEqual(unrolled_rows(found), rows)
            self.assertEqual(naive.rows(found), rows)
            self.assertEqual(normal(tuple(passes)), found)
            made += 1
        self.assertGreater(made, 200)

    def test_limit(self):
        # Each of these reads 4 unrollings, so it has 5 entries: 4 + 11 * 5 + 1 in all.
        passes = [("first", 0, 0)] * 4 + [("now", 1, 0)] * 11 + [("first", 2, 3)]
        self.assertEqual(len(normal(passes)), 60)
        self.assertIs(is_normal(normal(passes)), True)
        self.assertEqual(unrolled_rows(normal(passes)), unrolled_rows(passes))
        self.raises(TooMany, {"count": 61}, normal, passes + [("now", 3, 2)])
        self.raises(TooMany, {"count": 61}, normal, tuple(passes) + (("first", 7, 7),))
        self.raises(TooMany, {"count": 960}, normal, [("first", 0, 0)] * 30 + [("now", 1, 0)] * 30)
        self.assertEqual(len(normal([("first", 0, 0)] * 60)), 60)
        self.assertEqual(len(normal([("now", 0, 1)] * 60)), 60)

    def test_new_lists_and_same_arguments(self):
        passes = [("first", 0, 1), ("first", 0, 0), ("now", 1, 0)]
        normal(passes=passes).clear()
        self.assertEqual(passes, [("first", 0, 1), ("first", 0, 0), ("now", 1, 0)])
        self.assertEqual(len(normal(passes)), 4)
        told = [("first", 0, 1)]
        self.assertIsNot(normal(told), told)
        self.assertEqual(normal([]), [])
