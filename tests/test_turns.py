import random
from itertools import permutations
from math import factorial

from ringstays.bodies import Bodies
from ringstays.errors import InvalidTurns, NotTwo, OtherProgram, TooMany, Unreachable
from ringstays.joins import join_defect
from ringstays.logs import apply_log
from ringstays.meets import is_successor
from ringstays.programs import Program, complete
from ringstays.reaching import is_witness, reach
from ringstays.steps import inlinable
from ringstays.turns import apart, count_logs, from_turns, turns
from tests import naive, naive_bodies
from tests.cases import HUGE, NO_INTEGERS, NO_LISTS, NO_TUPLES, Case
from tests.test_reaching import grown

PROGRAM, PAIR = Program([[1, 1], [0]]), Program([[1], [0]])
SMALL = [[[1, 1], [0]], [[1], [0]], [[1, 0], [0]], [[1, 1], []], [[0, 1], [1, 0]], [[1, 1], [1]], [[1, 1, 1], [0, 0]]]
BAD = Bodies(PAIR, [[(0,)], [(0,)]])
OTHERS = [Program([[0]]), Program([[1], [2], [0]]), complete(8)]

WRONG_TURNS = NO_LISTS + [[(0, [(0,)])] * 61, [(0, [])], [(0, ())], [(2, [(0,)])], [(-1, [(0,)])], [(HUGE, [(0,)])],
                          [(0, [(1,), (0,)])], [(0, [(0,), (0,)])], [(0, [(0,), (0, 0)])], [(0, [()])], [(0, [(2,)])],
                          [[0, [(0,)]]], [(0,)], [(0, [(0,)], 0)], [(0, (0,))], [(0, [[0]])], [([(0,)], 0)],
                          [(0, [(0,)]), (0, [(1,)])], [(0, [(0,)]), (1, [(0, 0)])], [(1, [(0,)]), (1, [(0, 0)])],
                          [(0, [(0,)]), (1, [(0,)]), (0, [(0,)])], [(0, [(0, 0)])], (0, [(0,)])]
WRONG_TURNS += [[value] for value in NO_TUPLES] + [[(value, [(0,)])] for value in NO_INTEGERS]
WRONG_TURNS += [[(0, value)] for value in NO_LISTS] + [[(0, [value])] for value in NO_TUPLES]
WRONG_TURNS += [[(0, [(value,)])] for value in NO_INTEGERS] + [[(0, [(0,)]), value] for value in NO_TUPLES]


def turns_of(log):
    """The turns of a log, each with its paths in the order of the steps."""
    found = []
    for function, path, _ in log:
        if not found or found[-1][0] != function:
            found.append((function, []))
        found[-1][1].append(path)
    return found


def sorted_turns(log):
    return [(function, sorted(paths)) for function, paths in turns_of(log)]


def all_logs(calls, most):
    """All logs of mode "now" that make bodies of at most so many paths, by these bodies."""
    found, rest = {}, [(tuple(frozenset() for _ in calls), [])]
    while rest:
        sets, log = rest.pop()
        found.setdefault(sets, []).append(log)
        for step in naive_bodies.steps_from(calls, sets, ()):
            behind = [set(paths) for paths in sets]
            naive.inline(calls, behind, *step)
            if sum(map(len, behind)) <= most:
                rest.append((tuple(map(frozenset, behind)), log + [step]))
    return found


def distances(graph, start):
    """The numbers of steps and foldings from a body to all others of a graph of steps."""
    beside = {sets: set(nexts) for sets, nexts in graph.items()}
    for sets, nexts in graph.items():
        for other in nexts:
            beside[other].add(sets)
    found, rest = {start: 0}, [start]
    for sets in rest:
        for other in beside[sets]:
            if other not in found:
                found[other] = found[sets] + 1
                rest.append(other)
    return found


class Examples(Case):
    def test_examples(self):
        bodies = from_turns(PROGRAM, [(0, [(0,), (1,)]), (1, [(0,)])])
        self.assertEqual([bodies.inlined, turns(bodies), count_logs(bodies)],
                         [(((0,), (1,)), ((0,), (0, 0), (0, 1))), [(0, [(0,), (1,)]), (1, [(0,)])], 2])
        self.assertEqual(apart(bodies, from_turns(PROGRAM, [(0, [(1,)])])), 2)


class Errors(Case):
    def test_not_two(self):
        for program in OTHERS:
            count = len(program)
            self.raises(NotTwo, {"count": count}, turns, Bodies(program))
            self.raises(NotTwo, {"count": count}, count_logs, Bodies(program))
            self.raises(NotTwo, {"count": count}, from_turns, program, None)
            self.raises(NotTwo, {"count": count}, apart, Bodies(program), Bodies(program))
        bad = Bodies(Program([[1], [0], []]), [[(0,)], [(0,)], []])
        for ask in (turns, count_logs, lambda bodies: apart(bodies, bodies)):
            self.raises(NotTwo, {"count": 3}, ask, bad)

    def test_other_programs(self):
        for one, other in ((Bodies(PAIR), Bodies(PROGRAM)), (BAD, Bodies(OTHERS[0])),
                           (Bodies(OTHERS[1]), Bodies(PAIR))):
            self.assertIs(self.raises(OtherProgram, {"other": other}, apart, one, other).other, other)

    def test_unreachable(self):
        worse, good = Bodies(PAIR, [[(0,), (0, 0), (0, 0, 0)], [(0,)]]), Bodies(PAIR, [[(0,)], []])
        for ask, told in ((turns, BAD), (count_logs, BAD), (lambda bodies: apart(bodies, worse), BAD),
                          (lambda bodies: apart(good, bodies), BAD), (lambda bodies: apart(bodies, BAD), worse)):
            with self.assertRaises(Unreachable) as caught:
                ask(told)
            self.assertIs(is_witness(told, caught.exception.witness), True)
            with self.assertRaises(Unreachable) as again:
                ask(told)
            self.assertEqual(again.exception.witness, caught.exception.witness)

    def test_wrong_turns(self):
        for value in WRONG_TURNS:
            self.gives(InvalidTurns, value, from_turns, PROGRAM, value)

    def test_sixty_turns(self):
        # Each turn but the first copies the body of the one before it, so no sixty turns fit.
        program, told = Program([[1, 0], [0, 1]]), []
        made = Bodies(program)
        while made.size() < 1500:
            function = len(told) % 2
            path = min(path for step, path in inlinable(made) if step == function)
            told.append((function, [path]))
            made = apply_log(made, [(function, path, "now")])
        self.assertEqual(turns(made), told)
        function = len(told) % 2
        path = min(path for step, path in inlinable(made) if step == function)
        count = made.size() + 1 + len(made.inlined[1 - function])
        long = told + [(function, [path])] + [None] * (59 - len(told))
        self.assertEqual(len(long), 60)
        self.raises(TooMany, {"count": count}, from_turns, program, long)
        longer = long + [None]
        self.gives(InvalidTurns, longer, from_turns, program, longer)

    def test_too_many(self):
        program = Program([[1], [1, 0]])
        paths = naive.chain(2000)
        self.assertEqual(from_turns(program, [(0, paths)]).size(), 2000)
        self.assertEqual(from_turns(program, [(0, paths[:999]), (1, [(1,)])]).size(), 1999)
        self.raises(TooMany, {"count": 2001}, from_turns, program, [(0, paths[:1000]), (1, [(1,)])])
        more = [(0, paths[:1200]), (1, [(1,)])]
        self.raises(TooMany, {"count": 2401}, from_turns, program, more)
        # What is wrong about a later turn or path comes behind it, but not the form of the same turn.
        self.raises(TooMany, {"count": 2401}, from_turns, program, more + [None])
        self.raises(TooMany, {"count": 2401}, from_turns, program, [more[0], (1, [(1,), (1, 0)])])
        for wrong in ([more[0], (1, [(1,), (2,)])], [more[0], (1, [(1,), (1,)])], [(0, [(0,), (0, 1)]), more[1]],
                      [more[0], (1, [(0,), (1,)])]):
            self.gives(InvalidTurns, wrong, from_turns, program, wrong)


class Turns(Case):
    def test_all_logs_have_the_same_turns(self):
        for calls in SMALL:
            program = Program(calls)
            for sets, logs in all_logs(calls, 6 if len(calls[0]) < 3 else 4).items():
                bodies = naive.bodies_of(program, sets)
                found = turns(bodies)
                self.assertEqual(type(found), list)
                for log in logs:
                    self.assertEqual(sorted_turns(log), found)
                self.assertEqual(count_logs(bodies), len(logs))
                self.assertEqual(from_turns(program, found), bodies)
                self.check_orders(found, logs)

    def check_orders(self, found, logs):
        """Each turn is done in all orders in which no path comes ahead of one of its beginnings, and in no other."""
        for at, (_, paths) in enumerate(found):
            if len(paths) < 5:
                told = {tuple(turns_of(log)[at][1]) for log in logs}
                right = {order for order in permutations(paths)
                         if not any(path[:len(behind)] == behind for place, path in enumerate(order)
                                    for behind in order[place + 1:])}
                self.assertEqual(told, right)

    def test_apart(self):
        for calls, most, more in (([[1, 1], [0]], 4, 7), ([[1, 0], [0]], 4, 7), ([[1], [0]], 6, 9),
                                  ([[1, 1], [1]], 4, 6)):
            program = Program(calls)
            graph = naive_bodies.successors(calls, more)
            small = [sets for sets in graph if sum(map(len, sets)) <= most]
            for one in small:
                found = distances(graph, one)
                for other in small:
                    told = apart(naive.bodies_of(program, one), naive.bodies_of(program, other))
                    self.assertEqual(told, found[other])

    def test_successors_and_common_successors(self):
        told = []
        for calls, most in (([[1, 1], [0]], 4), ([[1, 0], [0]], 4), ([[1], [0]], 6)):
            program = Program(calls)
            found = [naive.bodies_of(program, sets) for sets in naive_bodies.successors(calls, most)]
            for one in found:
                for other in found:
                    first, second = turns(one), turns(other)
                    upper = self.begins(first, second)
                    self.assertIs(is_successor(one, other), upper)
                    close = len(first) == len(second) > 0 and first[:-1] == second[:-1]
                    close = close and first[-1][0] == second[-1][0]
                    told.append(upper or self.begins(second, first) or close)
                    self.assertIs(join_defect([one, other]) is None, told[-1])
        self.assertGreater(min(told.count(True), told.count(False)), 50)

    def begins(self, first, second):
        """Whether the first turns begin with the second ones, the last of which may have more paths in them."""
        if not second:
            return True
        at = len(second) - 1
        if len(first) <= at or first[:at] != second[:at] or first[at][0] != second[at][0]:
            return False
        return set(second[at][1]) <= set(first[at][1]) if len(first) >= len(second) else False

    def test_samples(self):
        source = random.Random(161)
        for _ in range(300):
            program = Program([[source.randrange(2) for _ in range(source.randint(0, 3))] for _ in range(2)])
            bodies, other = grown(source, program, 8, 200), grown(source, program, 4, 200)
            found = turns(bodies)
            self.assertEqual(found, sorted_turns(reach(bodies)))
            self.assertEqual(from_turns(program, found), bodies)
            self.assertEqual(from_turns(program, tuple((function, tuple(paths)) for function, paths in found)), bodies)
            self.assertEqual(apart(bodies, other), apart(other, bodies))
            self.assertEqual([apart(bodies, bodies), apart(bodies, Bodies(program))],
                             [0, sum(len(p) for _, p in found)])

    def test_large_counts(self):
        program = Program([[1] * 8, [1] * 8])
        paths = [(call,) for call in range(8)] + [(0, call) for call in range(8)] + [(0, 0, call) for call in range(8)]
        bodies = from_turns(program, [(0, sorted(paths))])
        self.assertEqual(count_logs(bodies), factorial(24) // (17 * 9))
        chain = from_turns(program, [(0, naive.chain(2000))])
        self.assertEqual([count_logs(chain), turns(chain)], [1, [(0, naive.chain(2000))]])
        wide = naive.chain(400) + [path + (call,) for path in naive.chain(400) for call in range(1, 5)]
        told = factorial(2000)
        sizes = 1
        for left in range(1, 401):
            sizes *= 5 * left
        made = from_turns(program, [(0, sorted(wide))])
        self.assertTrue(count_logs(made) * sizes == told)
        self.assertEqual([count_logs(Bodies(PAIR)), turns(Bodies(PAIR)), apart(made, chain)], [1, [], 2 * (2000 - 400)])

    def test_kinds_of_arguments(self):
        told = ((0, ((0,), (1,))), (1, ((0,),)))
        bodies = from_turns(program=PROGRAM, turns=told)
        found = turns(bodies=bodies)
        self.assertEqual(found, [(0, [(0,), (1,)]), (1, [(0,)])])
        found[0][1].clear()
        found.clear()
        self.assertEqual([turns(bodies), count_logs(bodies=bodies)], [[(0, [(0,), (1,)]), (1, [(0,)])], 2])
        self.assertEqual(apart(one=bodies, other=Bodies(PROGRAM)), 3)
        given = [(0, [(0,)])]
        from_turns(PROGRAM, given)
        self.assertEqual([given, from_turns(PROGRAM, [])], [[(0, [(0,)])], Bodies(PROGRAM)])
