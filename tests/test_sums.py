import random

from ringstays.errors import InvalidCells, InvalidNames, InvalidSum
from ringstays.programs import Program
from ringstays.sums import is_sum, worth
from tests import naive_source
from tests.cases import HUGE, NO_INTEGERS, NO_LISTS, Case

CELLS = [0, 1, 2, 3, 4, 5, 65535, 9]
LONG = "a" * 40
NO_WORTHS = [value for value in NO_INTEGERS if not isinstance(value, str)] + [-1, 65536, HUGE]
NO_NAMES = ["", "1", "1a", "A", "aB", "a_", "a b", " a", "a ", "a\n", "a-b", LONG + "a", "\u00e4", "a\u0663", "\u0430",
            "a\u00b2", "a" * 1000, "[3]", "a,"]
WRONG_SUMS = NO_NAMES + NO_WORTHS + [("cell", 8), ("cell", -1), ("cell", HUGE), ["cell", 1], ("cell",), ("cell", 1, 1),
                                     ("cells", 1), ("cell", (1,)), ("add", 1), ("add", 1, 2, 3), ["add", 1, 2],
                                     (1, "add", 2),
                                     ("Add", 1, 2), ("div", 1, 2), ("", 1, 2), (None, 1, 2), (("add",), 1, 2),
                                     (["add"], 1, 2),
                                     ("add", [1], 2), ("add", 1, ["cell", 1]), (1,), (1, 2), ({}, 1, 2),
                                     (Program([[]]), 1, 2),
                                     ("cell", "a"), (0, 1), ("less", "A", 1), ("rest", 65536, 1), ("add",) * 3 + (1,)]
WRONG_SUMS += [("cell", value) for value in NO_INTEGERS] + [("mul", value, 1) for value in NO_WORTHS]
WRONG_SUMS += [("mul", 1, value) for value in NO_WORTHS + NO_NAMES]
WRONG_CELLS = NO_LISTS + [[], CELLS[:7], CELLS + [0], [65536] + CELLS[1:], [-1] + CELLS[1:], [[0]] + CELLS[1:]]
WRONG_CELLS += [CELLS[:7] + [value] for value in NO_INTEGERS + [HUGE]]
WRONG_NAMES = [value for value in NO_INTEGERS if not isinstance(value, dict)] + [[("a", 1)], {"A": 1}, {"": 1},
                                                                                 {"1a": 1}]
WRONG_NAMES += [{"a": 1, "b": value} for value in NO_INTEGERS + [-1, 65536, HUGE]] + [{name: 1} for name in NO_NAMES]


def deep(depth, side=0, end="a"):
    found = end
    for _ in range(depth):
        found = ("add", found, 1) if side == 0 else ("add", 1, found)
    return found


class Examples(Case):
    def test_examples(self):
        self.assertEqual([worth(("sub", "a", 3), {"a": 1}, [0] * 8),
                          worth(("rest", ("cell", 7), "b"), {}, [0, 0, 0, 0, 0, 0, 0, 9])], [65534, 0])
        self.assertEqual([is_sum(("less", 1, ("mul", "x1", 2))), is_sum(65536), is_sum(["cell", 1]), is_sum("1a")],
                         [True, False, False, False])


class Sums(Case):
    def test_right_and_wrong_sums(self):
        right = [0, 65535, "a", "z9", LONG, "a0123456789", "cell", "add", "rest", ("cell", 0), ("cell", 7),
                 ("add", 1, 2),
                 ("sub", "a", ("cell", 3)), ("mul", ("mul", 1, 2), "b"), ("less", 0, 0), ("rest", "rest", "add")]
        for value in right:
            self.assertIs(is_sum(value), True)
            worth(value, {}, CELLS)
        for value in WRONG_SUMS:
            self.assertIs(is_sum(value), False, value)
            self.gives(InvalidSum, value, worth, value, None, None)

    def test_depths(self):
        for side in (0, 1):
            self.assertIs(is_sum(deep(8, side)), True)
            self.assertEqual(worth(deep(8, side), {"a": 4}, CELLS), 12)
            for end in ("a", 1, ("cell", 1)):
                self.assertIs(is_sum(deep(8, side, end)), True)
                self.assertIs(is_sum(deep(9, side, end)), False)
            for depth in (9, 100, 200):
                self.assertIs(is_sum(deep(depth, side)), False)
        whole = 1
        for depth in range(9):
            self.assertIs(is_sum(whole), True)
            self.assertEqual(worth(whole, {}, CELLS), 2 ** depth)
            whole = ("add", whole, whole)
        self.assertIs(is_sum(whole), False)
        for _ in range(190):
            whole = ("add", whole, whole)
        self.assertIs(is_sum(whole), False)

    def test_errors_in_order(self):
        for names in WRONG_NAMES:
            self.gives(InvalidNames, names, worth, "a", names, CELLS)
            self.gives(InvalidNames, names, worth, 0, names, None)
        for cells in WRONG_CELLS:
            self.gives(InvalidCells, cells, worth, "a", {"a": 1}, cells)
            self.gives(InvalidCells, cells, worth, 0, {}, cells)
        self.gives(InvalidSum, None, worth, None, None, None)

    def test_worths(self):
        for one, other, told in ((65535, 1, (0, 65534, 65535, 0, 0)), (0, 0, (0, 0, 0, 0, 0)),
                                 (0, 1, (1, 65535, 0, 1, 0)),
                                 (7, 7, (14, 0, 49, 0, 0)), (3, 0, (3, 3, 0, 0, 0)), (9, 4, (13, 5, 36, 0, 1)),
                                 (65535, 65535, (65534, 0, 1, 0, 0)), (256, 256, (512, 0, 0, 0, 0)),
                                 (4, 9, (13, 65531, 36, 1, 4))):
            kinds = ("add", "sub", "mul", "less", "rest")
            self.assertEqual(tuple(worth((kind, one, other), {}, CELLS) for kind in kinds), told)
            self.assertEqual(tuple(worth((kind, "a", "b"), {"a": one, "b": other}, CELLS) for kind in kinds), told)

    def test_samples(self):
        source = random.Random(171)
        for _ in range(2000):
            given = naive_source.random_sum(source, 5)
            names = {name: source.choice((0, 1, 9, 65535)) for name in naive_source.NAMES if source.random() < 0.7}
            cells = [source.randint(0, 65535) for _ in range(8)]
            self.assertEqual(worth(given, names, cells), naive_source.worth(given, names, cells))

    def test_kinds_of_arguments(self):
        names, cells = {"a": 2, LONG: 65535}, list(CELLS)
        self.assertEqual(worth(given=("add", "a", ("cell", 6)), names=names, cells=tuple(cells)), 1)
        self.assertEqual([worth(LONG, names, cells), worth("other", names, cells)], [65535, 0])
        self.assertEqual([names, cells], [{"a": 2, LONG: 65535}, CELLS])
        self.assertIs(is_sum(value="a"), True)
