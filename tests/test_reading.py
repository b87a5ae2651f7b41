import random
from itertools import product

from ringstays.bodies import Bodies
from ringstays.errors import NoOrder, NoRow, NotACopy, NotComplete, TooMany
from ringstays.passes import is_pass_list, run_passes
from ringstays.peeling import read_row
from ringstays.programs import Program, complete
from ringstays.reading import is_passes_from, passes_from
from tests import naive
from tests.cases import NO_LISTS, Case
from tests.test_peeling import made

KINDS = [("now", 0, 1), ("now", 1, 0), ("first", 0, 1), ("first", 1, 0)]


def line(callee, count):
    return [(callee,) * calls for calls in range(1, count + 1)]


def crossed():
    """Bodies of which 0 should have read 1 ahead of the change that reads 0 ahead of just this one."""
    row = [(2,), (1,), (1, 2), (2, 1), (2, 1, 2)]
    other = [(2,), (0,), (0, 2), (2, 0), (2, 0, 2)]
    return [row, other, []]


def stages(bodies, function):
    """The body of the function behind each number of changes, for bodies that have rows."""
    calls, paths, found = bodies.program.calls, set(bodies.inlined[function]), []
    while paths:
        found.insert(0, tuple(sorted(paths)))
        paths = naive.peeled(calls, function, paths, naive.last_changes(calls, function, paths)[0])
    return [()] + found


def is_ahead(rows, bodies_behind, first, second):
    """Point [83], word by word."""
    (g, j), (f, i) = first, second

    def reads(entry, function):
        callee, copy = rows[entry[0]][entry[1]]
        return bodies_behind[function].index(copy) if callee == function else 0

    return (g == f and j < i) or 0 <= j < reads(second, g) or (reads(first, f) > 0 and i >= reads(first, f))


class Examples(Case):
    def test_examples(self):
        bodies = Bodies(complete(2), [[(1,), (1, 0)], [(0,), (0, 0)]])
        self.assertEqual([is_passes_from(bodies, passes_from(bodies)),
                          is_passes_from(bodies, [("now", 1, 0), ("now", 0, 1)])], [True, False])
        self.raises(NotACopy, {"function": 1, "at": 0}, passes_from,
                    Bodies(complete(2), [[(1,), (1, 0), (1, 0, 1)], [(0,), (0, 1)]]))


class Errors(Case):
    def test_not_complete(self):
        for calls, least in (([[1], [0]], 0), ([[0, 1], [1, 0]], 1), ([[]], 0)):
            bodies = Bodies(Program(calls))
            self.raises(NotComplete, {"function": least}, passes_from, bodies)
            for value in ([], None, [("first", 0, 0)]):
                self.raises(NotComplete, {"function": least}, is_passes_from, bodies, value)
        self.raises(NotComplete, {"function": 0}, passes_from, Bodies(Program([[0, 0]]), [naive.chain(401)]))

    def test_too_many_paths(self):
        # Behind this error stands that there is no row.
        self.raises(NoRow, {"function": 0}, passes_from, Bodies(complete(1), [naive.chain(400)]))
        self.raises(TooMany, {"count": 401}, passes_from, Bodies(complete(1), [naive.chain(401)]))
        self.raises(TooMany, {"count": 401}, passes_from, Bodies(complete(2), [line(1, 200), line(0, 201)]))

    def test_no_row(self):
        self.raises(NoRow, {"function": 1}, passes_from, Bodies(complete(3), [[(1,)], [(1,)], [(0,), (1,)]]))
        # Ahead of an entry that is no copy.
        self.raises(NoRow, {"function": 1}, passes_from, Bodies(complete(2), [[(1,), (1, 0)], [(1,)]]))

    def test_not_a_copy(self):
        bodies = Bodies(complete(3), [[(2,)], [(0,), (0, 1)], [(0,), (0, 1)]])
        self.raises(NotACopy, {"function": 1, "at": 0}, passes_from, bodies)
        # The least entry, not the first one in a row that is read.
        wrong = [(1,), (1, 0)]
        self.raises(NotACopy, {"function": 0, "at": 0}, passes_from, Bodies(complete(2), [wrong, []]))
        wrong = [(1,), (1, 1), (1, 1, 0)]
        self.raises(NotACopy, {"function": 0, "at": 1}, passes_from, Bodies(complete(2), [wrong, []]))
        # Ahead of a list for NoOrder.
        rows = crossed()
        rows[2] = [(0,), (0, 1)]
        self.raises(NotACopy, {"function": 2, "at": 0}, passes_from, Bodies(complete(3), rows))

    def test_no_order(self):
        for rows in (crossed(), crossed()[:2] + [[(0,)]]):
            error = self.check_no_order(Bodies(complete(3), rows))
            self.assertEqual(sorted(error.cycle), [(0, 1), (1, 1)])

    def check_no_order(self, bodies):
        with self.assertRaises(NoOrder) as caught:
            passes_from(bodies)
        cycle, rows = caught.exception.cycle, [read_row(bodies, f) for f in range(len(bodies.program))]
        behind = [stages(bodies, function) for function in range(len(bodies.program))]
        self.assertIs(type(cycle), list)
        self.assertGreater(len(cycle), 1)
        self.assertEqual(len(set(cycle)), len(cycle))
        for first, second in zip(cycle, cycle[1:] + cycle[:1]):
            self.assertTrue(is_ahead(rows, behind, first, second), (cycle, first, second))
        with self.assertRaises(NoOrder) as again:
            passes_from(bodies)
        self.assertEqual(again.exception.cycle, cycle)
        self.assertIsNot(again.exception.cycle, cycle)
        return caught.exception

    def test_too_many_entries(self):
        bodies = Bodies(complete(2), [line(1, 30), line(0, 30)])
        self.assertEqual(len(passes_from(bodies)), 60)
        self.assertIs(is_passes_from(bodies, passes_from(bodies)), True)
        self.raises(TooMany, {"count": 61}, passes_from, Bodies(complete(2), [line(1, 31), line(0, 30)]))
        self.raises(TooMany, {"count": 400}, passes_from, Bodies(complete(2), [line(1, 400), []]))
        # A list for NoOrder comes ahead of it.
        rows = crossed()
        rows[2] = line(0, 70)
        self.check_no_order(Bodies(complete(3), rows))


class Reading(Case):
    def test_made_bodies(self):
        kinds = set()
        for program, sets in made(83, 250, 6):
            bodies = naive.bodies_of(program, sets)
            try:
                passes = passes_from(bodies)
            except (NoRow, NotACopy, NoOrder) as error:
                kinds.add(type(error))
                self.check_error(bodies, error)
                continue
            kinds.add(list)
            self.check_passes(program, sets, passes)
        self.assertEqual(kinds & {NoRow, NotACopy, list}, {NoRow, NotACopy, list})

    def check_passes(self, program, sets, passes):
        self.assertIs(type(passes), list)
        self.assertTrue(is_pass_list(passes))
        self.assertTrue(all(function != callee for _, function, callee in passes))
        behind = [set() for _ in sets]
        for one in passes:
            naive.run_pass(program.calls, behind, one)
        self.assertEqual(behind, sets)
        bodies = naive.bodies_of(program, sets)
        self.assertIs(is_passes_from(bodies, passes), True)
        self.assertEqual(passes_from(bodies), passes)

    def check_error(self, bodies, error):
        rows, behind = [], []
        for function in range(len(bodies.program)):
            try:
                rows.append(read_row(bodies, function))
            except NoRow:
                self.assertEqual([type(error), vars(error)], [NoRow, {"function": function}])
                return
            behind.append(stages(bodies, function))
        for function, row in enumerate(rows):
            for at, (callee, copy) in enumerate(row):
                if copy not in behind[callee]:
                    self.assertEqual([type(error), vars(error)], [NotACopy, {"function": function, "at": at}])
                    return
        self.check_no_order(bodies)

    check_no_order = Errors.check_no_order

    def test_many_lists(self):
        source = random.Random(84)
        read = 0
        while read < 120:
            functions = source.randint(2, 8)
            passes = naive.random_passes(source, source.randint(1, 12), functions, False)
            try:
                bodies = run_passes(complete(functions), passes)
            except TooMany:
                continue
            if bodies.size() > 400:
                self.raises(TooMany, {"count": bodies.size()}, passes_from, bodies)
                continue
            found = passes_from(bodies)
            self.assertEqual(len(found), len(passes))
            self.assertEqual(run_passes(complete(functions), found), bodies)
            read += 1

    def test_an_error_means_that_there_is_none(self):
        lists = [list(passes) for length in range(6) for passes in product(KINDS, repeat=length)]
        known = set()
        for passes in lists:
            try:
                known.add(run_passes(complete(2), passes).inlined)
            except TooMany:
                pass
        source = random.Random(85)
        seen = set()
        for _ in range(400):
            bodies = naive.random_bodies(source, complete(2), 2)
            try:
                passes_from(bodies)
                seen.add(True)
            except (NoRow, NotACopy, NoOrder):
                seen.add(False)
                self.assertNotIn(bodies.inlined, known)
        self.assertEqual(seen, {True, False})

    def test_rows_without_regard_to_an_order(self):
        """Bodies that have rows, whose entries are copies; whether there is an order is left to chance."""
        source, found = random.Random(86), {list: 0, NoOrder: 0}
        for _ in range(3000):
            rows = [[((f + source.randint(1, 2)) % 3, source.choice((0, 1, 1, 2))) for _ in range(source.randint(0, 3))]
                    for f in range(3)]
            sets = self.behind_rows(rows)
            if sets is None or sum(map(len, sets)) > 80:
                continue
            bodies = naive.bodies_of(complete(3), sets)
            try:
                self.check_passes(bodies.program, sets, passes_from(bodies))
                found[list] += 1
            except NoOrder as error:
                self.check_error(bodies, error)
                found[NoOrder] += 1
        self.assertGreater(min(found.values()), 30)

    def behind_rows(self, rows):
        """The bodies with rows of (callee, number of its changes), None if one would have to hold itself."""
        calls, known = complete(3).calls, {}

        def body(function, count, above):
            if (function, count) in above or count > len(rows[function]):
                return None
            if count == 0:
                return set()
            if (function, count) not in known:
                callee, version = rows[function][count - 1]
                ahead = body(function, count - 1, above | {(function, count)})
                part = body(callee, version, above | {(function, count)})
                if ahead is None or part is None or len(ahead) + len(part) > 80:
                    return None
                sets = [set(ahead) if f == function else set(part) for f in range(3)]
                for path in naive.open_paths(calls, function, ahead):
                    if path and naive.end(calls, function, path) == callee:
                        naive.inline(calls, sets, function, path, "now")
                known[(function, count)] = sets[function]
            return known[(function, count)]

        sets = [body(function, len(row), frozenset()) for function, row in enumerate(rows)]
        return None if None in sets else sets


class Judge(Case):
    def test_values(self):
        bodies = Bodies(complete(2), [[(1,)], []])
        for value in ([("now", 0, 1)], [("first", 0, 1)], (("now", 0, 1),), [("now", 7, 3), ("first", 0, 1)],
                      [("first", 0, 1), ("now", 1, 5)]):
            self.assertIs(is_passes_from(bodies, value), True)
        wrong = NO_LISTS + [[], [("now", 1, 0)], [["now", 0, 1]], [("now", 0, 1)] * 2, [("now", 0, True)],
                            [("now", False, 1)], [("now", 0, 1), ("first", 5, 5)], [("first", 0, 0), ("now", 0, 1)],
                            [("now", 0, 1), ("first", 1, 1)], [("now", 0, 1), None], [("Now", 0, 1)], [("now", 0, 8)],
                            [("now", 0, 1)] + [("now", 7, 6)] * 60]
        for value in wrong:
            self.assertIs(is_passes_from(bodies, value), False)
        self.assertIs(is_passes_from(bodies, [("now", 0, 1)] + [("now", 7, 6)] * 59), True)

    def test_original_bodies(self):
        self.assertEqual(passes_from(Bodies(complete(1))), [])
        self.assertIs(is_passes_from(Bodies(complete(1)), []), True)
        self.assertIs(is_passes_from(Bodies(complete(1)), [("now", 0, 1)]), True)
        self.assertIs(is_passes_from(Bodies(complete(1)), [("first", 0, 0)]), False)

    def test_no_limit_of_400(self):
        passes = [("first", 0, 1)] * 3 + [("now", 1, 0)] * 4 + [("now", 0, 1)] + [("now", 1, 0), ("now", 0, 1)] * 20
        length = max(k for k in range(20) if not self.is_too_large(passes[:k]))
        bodies = run_passes(complete(2), passes[:length])
        self.assertGreater(bodies.size(), 400)
        self.assertIs(is_passes_from(bodies, passes[:length]), True)
        self.assertIs(is_passes_from(bodies, passes[:length - 1]), False)
        # A run that passes 2000 paths makes no bodies.
        self.assertIs(is_passes_from(bodies, passes), False)

    def is_too_large(self, passes):
        try:
            run_passes(complete(2), passes)
        except TooMany:
            return True
        return False

    def test_kinds_of_arguments(self):
        bodies = Bodies(complete(2), [[(1,)], [(0,)]])
        found = passes_from(bodies=bodies)
        self.assertIs(is_passes_from(bodies=bodies, value=found), True)
        kept = list(found)
        found.clear()
        self.assertEqual(passes_from(bodies), kept)
        self.assertEqual(bodies, Bodies(complete(2), [[(1,)], [(0,)]]))
