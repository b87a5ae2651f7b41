import random

from ringstays.errors import BadSource, TooManyCalls
from ringstays.programs import Program
from ringstays.source import Source, program_of
from tests import naive_source
from tests.cases import HUGE, NO_INTEGERS, NO_LISTS, NO_TUPLES, Case
from tests.test_sums import NO_NAMES, WRONG_SUMS, deep

CALL = ("call", None, 0, ())
RIGHT_ROWS = [("set", "a", 1), ("store", 0, "a"), ("store", 7, ("cell", 7)), ("show", deep(8)), ("give", 65535),
              ("ask", "a", [], []), ("ask", "a", [("show", 1)], ()), ("times", 3, []), ("times", 3, (("give", 1),)),
              ("call", None, 0, []), ("call", "a" * 40, 0, ()), ("choose", None, 0, [0], []),
              ("choose", "b", 7, (0,), ())]
NO_CELLS = NO_INTEGERS + [-1, 8, HUGE]
NO_NAMES_HERE = NO_NAMES + [value for value in NO_INTEGERS if not isinstance(value, str)] + [0, 1, HUGE]

WRONG_ROWS = NO_TUPLES + [(), ("set",), ("set", "a"), ("set", "a", 1, 1), ["set", "a", 1], ("sets", "a", 1),
                          ("", "a", 1),
                          (None, "a", 1), (["set"], "a", 1), ("store", 0), ("store", 0, 1, 1), ("show",),
                          ("show", 1, 1),
                          ("give",), ("give", 1, 1), ("ask", 1), ("ask", 1, []), ("ask", 1, [], [], []), ("times", 1),
                          ("times", 1, [], []), ("call", None, 0), ("call", None, 0, [], []), ("call", 0, []),
                          ("choose", None, 0, [0]), ("choose", None, 0, [0], [], []), ("choose", None, 0, [], []),
                          ("choose", None, 0, [0, 0], []), ("choose", None, 0, [1], []), ("choose", None, 0, [-1], []),
                          ("choose", None, 0, 0, []), ("end",), ("else",), ("show", ["cell", 1]), "show 1", 0]
WRONG_ROWS += [("set", name, 1) for name in NO_NAMES_HERE] + [("store", cell, 1) for cell in NO_CELLS]
WRONG_ROWS += [(kind, value) for value in WRONG_SUMS[::3] for kind in ("show", "give")]
WRONG_ROWS += [(kind, goal, value) for value in WRONG_SUMS[::3] for kind, goal in (("set", "a"), ("store", 1))]
WRONG_ROWS += [("ask", deep(9), [], []), ("times", deep(9), []), ("show", deep(9)), ("set", "a", deep(9))]
WRONG_ROWS += [("ask", value, [], []) for value in WRONG_SUMS[::5]] + [("times", value,
                                                                        []) for value in WRONG_SUMS[::5]]
WRONG_ROWS += [("ask", 1, value, []) for value in NO_LISTS] + [("ask", 1, [], value) for value in NO_LISTS]
WRONG_ROWS += [("times", 1, value) for value in NO_LISTS] + [("times", 1, [value]) for value in NO_TUPLES]
WRONG_ROWS += [("ask", 1, [], [value]) for value in NO_TUPLES] + [("ask", 1, [("show", 1), value],
                                                                   []) for value in NO_TUPLES]
WRONG_ROWS += [("call", name, 0, []) for name in NO_NAMES_HERE if name is not None]
WRONG_ROWS += [("choose", name, 0, [0], []) for name in NO_NAMES_HERE if name is not None]
WRONG_ROWS += [("call", None, value, []) for value in NO_INTEGERS + [-1, 1, 8, HUGE]]
WRONG_ROWS += [("choose", None, value, [0], []) for value in NO_CELLS]
WRONG_ROWS += [("choose", None, 0, value, []) for value in NO_LISTS] + [("choose", None, 0, [0], v) for v in NO_LISTS]
WRONG_ROWS += [("choose", None, 0, [value], []) for value in NO_INTEGERS] + [("call", None, 0, v) for v in NO_LISTS]
WRONG_ROWS += [("call", None, 0, [value]) for value in WRONG_SUMS[::5]]


def nested(depth, inner=(), kind="times"):
    """One row of this depth within others, with some rows within it."""
    rows = list(inner)
    for _ in range(depth):
        rows = [{"times": ("times", 1, rows), "ask": ("ask", 1, [], rows), "first": ("ask", 1, rows, [])}[kind]]
    return rows


class Examples(Case):
    def test_examples(self):
        rows = [("ask", "a", [("call", "b", 1, [])], []), ("choose", None, 2, [1], ())]
        source = Source([(("a",), rows), ((), [("give", 7)])])
        self.assertEqual([program_of(source).calls, source.functions[1], Source(source.functions) == source],
                         [((1, 1), ()), ((), (("give", 7),)), True])
        self.raises(BadSource, {"at": 0}, Source, [((), [("call", None, 0, [1])])])


class Errors(Case):
    def bad(self, at, functions):
        self.raises(BadSource, {"at": at}, Source, functions)

    def test_no_list_of_functions(self):
        item = ((), [])
        for value in NO_LISTS + [[], (), [item] * 9, (item,) * 9]:
            self.bad(-1, value)
        # The number of functions comes ahead of what they are.
        self.bad(-1, [None] * 9)
        self.assertEqual(len(Source([item] * 8)), 8)

    def test_wrong_items(self):
        good = (("a",), [("show", "a")])
        items = NO_TUPLES + [(), ((),), ((), [], []), [(), []], ([], []), (["a"], []), ("a", []), (None, []),
                             ((), None),
                             (("a", "a"), []), (("a", "b", "c", "d", "e"), []), ((), ("show", 1)), ((), ["show 1"]),
                             (0, [])]
        items += [((name,), []) for name in NO_NAMES_HERE] + [((), value) for value in NO_LISTS]
        items += [((), [("show", 1)] * 401), ((), [None])]
        for item in items:
            for functions, at in (([item], 0), ([good, item, good], 1), ((good, good, item), 2), ([item, item], 0)):
                self.bad(at, functions)

    def test_wrong_rows(self):
        for row in WRONG_ROWS:
            for functions, at in (([((), [row])], 0), ([((), [("give", 1), row])], 0),):
                self.bad(at, functions)
            self.bad(0, [((), [("times", 1, [("ask", 1, [], [row])])])])
        for row in RIGHT_ROWS:
            self.assertEqual(len(Source([((), [row] * 3)])), 1)

    def test_numbers_of_sums_come_last(self):
        call, choose = ("call", None, 1, [1]), ("choose", None, 0, [0, 1], [1, 2])
        self.bad(0, [((), [call]), ((), [])])
        self.bad(2, [((), [call]), ((), []), None])
        self.bad(1, [((), [call]), (("a",), [("times", 1, [("call", None, 1, [])])])])
        self.bad(1, [(("a",), [call]), (("a",), [("ask", 1, [], [choose])])])
        self.bad(0, [(("a", "b"), [choose]), (("a",), [])])
        self.bad(0, [(("a",), [choose]), (("a", "b"), [])])
        self.assertEqual(len(Source([(("a", "b"), [choose]), (("c", "d"), [call[:3] + ([1, 2],)])])), 2)
        self.bad(1, [((), []), (("a", "b"), [("call", None, 1, [1, 2, 3])])])

    def test_four_names(self):
        self.assertEqual(len(Source([(("a", "b", "c", "d" * 40), [])])), 1)

    def test_functions_that_are_not_there(self):
        self.bad(0, [((), [("call", None, 1, [])])])
        self.bad(1, [((), []), ((), [("choose", None, 0, [0, 1, 3], [])]), ((), [None])])
        self.assertEqual(len(Source([((), [("choose", None, 0, [0, 1, 2], [])]), ((), []), ((), [])])), 3)
        self.bad(0, [((), [("choose", None, 0, [0, 1, 2, 3], [])])] + [((), [])] * 4)

    def test_400_rows(self):
        show = ("show", 1)
        for rows, count in (([show] * 400, 400), ([("ask", 1, [show] * 199, [show] * 200)], 400),
                            ([("times", 1, [show] * 10)] * 36 + [show] * 4, 400), ([show] * 401, 401),
                            ([("ask", 1, [show] * 200, [show] * 200)], 401), ([("times", 1, [show] * 10)] * 37, 407)):
            if count == 400:
                self.assertEqual(len(Source([((), rows), ((), rows)])), 2)
            else:
                self.bad(1, [((), [show]), ((), rows)])

    def test_40_deep(self):
        for kind in ("times", "ask", "first"):
            self.assertEqual(len(Source([((), nested(40, kind=kind))])), 1)
            self.assertEqual(len(Source([((), nested(39, [("show", 1)], kind))])), 1)
            self.bad(0, [((), nested(41, kind=kind))])
            self.bad(0, [((), nested(40, [("show", 1)], kind))])
            self.bad(0, [((), nested(90, kind=kind))])
        self.assertEqual(len(Source([((), nested(39, [("ask", 1, [], ())]))])), 1)
        self.bad(0, [((), nested(39, [("ask", 1, [("show", 1)], [])]))])
        self.bad(0, [((), nested(39, [("ask", 1, [], [("show", 1)])]))])

    def test_rows_that_stand_again_and_again(self):
        rows = [("show", 1)]
        for _ in range(60):
            rows = [("ask", 1, rows, rows)]
        self.bad(0, [((), rows)])
        endless = []
        endless.append(("times", 1, endless))
        self.bad(0, [((), endless)])


class Sources(Case):
    def test_tuples_in_the_place_of_lists(self):
        rows = [("ask", "a", [("call", "b", 1, ["a"])], [("times", 2, [("choose", None, 2, [0, 1], [("add", 1, 2)])])])]
        source = Source([(("a",), rows), (("b",), [])])
        told = ((("a",), (("ask", "a", (("call", "b", 1, ("a",)),),
                           (("times", 2, (("choose", None, 2, (0, 1), (("add", 1, 2),)),)),)),)), (("b",), ()))
        self.assertEqual(source.functions, told)
        self.assertEqual([Source(told), Source(functions=list(told))], [source, source])
        rows[0][2].append(("give", 1))
        rows.clear()
        self.assertEqual(source.functions, told)

    def test_equal_sources(self):
        one = Source([(("a",), [("show", "a")]), ((), [])])
        self.assertTrue(one == Source(((("a",), (("show", "a"),)), ((), ()))))
        for functions in ([(("b",), [("show", "a")]), ((), [])], [(("a",), [("show", "a")])],
                          [(("a",), [("give", "a")]), ((), [])], [(("a",), [("show", "a")]), ((), [("give", 0)])]):
            self.assertFalse(one == Source(functions))
            self.assertTrue(one != Source(functions))
        for other in (None, one.functions, Program([[]]), "a"):
            self.assertFalse(one == other)

    def test_program_of(self):
        rows = [("call", None, 2, []), ("ask", 1, [("call", "a", 1, []), ("times", 1, [("call", None, 0, [])])],
                                        [("choose", None, 0, [0, 2], [])]), ("call", None, 1, [])]
        source = Source([((), rows), ((), [("give", 1)]), ((), [("choose", "a", 1, [0, 1, 2], [])])])
        self.assertEqual(program_of(source), Program([[2, 1, 0, 0, 2, 1], [], [0, 1, 2]]))

    def test_program_of_samples(self):
        source = random.Random(172)
        for _ in range(300):
            made = naive_source.Sampler(source, 8).made()
            calls = []
            for _, rows in made.functions:
                calls.append([])
                for row, _ in naive_source.in_text_order(rows):
                    calls[-1] += [row[2]] if row[0] == "call" else row[3] if row[0] == "choose" else []
            self.assertEqual(program_of(source=made), Program(calls))

    def test_eight_and_nine_calls(self):
        choose = ("choose", None, 0, [0, 1, 2], [])
        eight, nine = [choose] * 2 + [CALL] * 2, [CALL, choose, ("times", 1, [choose]), CALL, CALL]
        more = [((), [("show", 1)]), ((), [CALL] * 8)]
        self.assertEqual([len(row) for row in program_of(Source([((), eight)] + more)).calls], [8, 0, 8])
        self.raises(TooManyCalls, {"function": 0}, program_of, Source([((), nine)] + more))
        self.raises(TooManyCalls, {"function": 1}, program_of, Source([((), eight), ((), nine), ((), nine)]))
        self.raises(TooManyCalls, {"function": 2}, program_of, Source(more + [((), [CALL] * 400)]))
