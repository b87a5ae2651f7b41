import random
from itertools import combinations, permutations, product

from ringstays.bodies import Bodies, open_paths
from ringstays.cycles import is_cycle
from ringstays.errors import InvalidFunction, InvalidMost, InvalidParts, InvalidPath, NoJoin, TooMany, Unreachable
from ringstays.joins import Join, is_join_defect, join_defect
from ringstays.jumps import jump_cycles
from ringstays.meets import is_successor, meet
from ringstays.programs import Program, complete
from ringstays.reaching import is_witness, witness
from tests import naive, naive_bodies
from tests.cases import HUGE, NO_INTEGERS, NO_LISTS, NO_TUPLES, Case
from tests.test_meets import SMALL, above
from tests.test_reaching import grown

PAIR = Program([[1], [0]])
AROUND = (0, (0, 0))
ASKED = [join_defect, Join, lambda parts: is_join_defect(parts, None)]
ONE, OTHER = Bodies(PAIR, [[(0,)], []]), Bodies(PAIR, [[], [(0,)]])
MORE = Bodies(PAIR, [[(0,), (0, 0)], [(0,)]])


def random_parts(source, functions=3):
    """One to three reachable bodies, some with a common successor by the way in which they are made."""
    program = naive.random_program(source, functions, 2)
    base = grown(source, program, source.randint(0, 3))
    return [above(source, base, source.randint(0, 3)) if source.random() < 0.7 else grown(source, program, 3)
            for _ in range(source.randint(1, 3))]


class Examples(Case):
    def test_examples(self):
        self.assertEqual([is_join_defect([ONE, OTHER], (AROUND, [[0], [1]])), join_defect([ONE])], [True, None])
        join = Join([OTHER, MORE])
        self.assertEqual([join.lands(0, (0, 0, 0, 0)), join.is_inlined(0, (0, 0)), join.bodies(3).inlined],
                         [[3], True, (((0,), (0, 0)), ((0,),))])
        leaf = Bodies(Program([[1, 0], []]), [[(0,)], []])
        self.assertEqual([Join([leaf]).lands(0, (0,)), Join([leaf]).lands(0, (1, 0)), Join([leaf]).lands(0, (1, 1, 0))],
                         [[], [1], [1, 2]])
        self.raises(TooMany, {"count": 3}, join.bodies, 2)


class Errors(Case):
    def test_wrong_parts(self):
        good = Bodies(PAIR)
        wrong = NO_LISTS + [[], [good] * 4, [good, None], [None], [good, PAIR], [good, [good]], [PAIR], [good, "b"],
                            [good, Bodies(Program([[1, 1], [0]]))], [good, good, Bodies(Program([[0], [0]]))], good]
        for ask in ASKED:
            for parts in wrong:
                self.gives(InvalidParts, parts, ask, parts)

    def test_unreachable(self):
        program = Program([[1], [0], [2]])
        good, bad = Bodies(program), Bodies(program, [[(0,)], [(0,)], []])
        worse, large = Bodies(program, [[], [], naive.chain(300)]), Bodies(program, [naive.chain(122), [(0,)], []])
        self.assertIsNone(witness(large))
        for ask in ASKED:
            for parts, told in (([good, bad], bad), ([bad], bad), ([bad, worse], bad), ([worse, good, bad], worse),
                                ([large, good, worse], worse), ([large, bad, bad], bad)):
                with self.assertRaises(Unreachable) as caught:
                    ask(parts)
                self.assertIs(is_witness(told, caught.exception.witness), True)
                self.assertEqual(caught.exception.witness, witness(told))

    def test_too_many(self):
        def long(count):
            return Bodies(PAIR, [naive.chain(count), [(0,)]])
        for ask in ASKED:
            self.raises(TooMany, {"count": 121}, ask, [long(120)])
            self.raises(TooMany, {"count": 121}, ask, [ONE, long(118), OTHER])
            self.raises(TooMany, {"count": 122}, ask, [long(60), long(60)])
            self.raises(TooMany, {"count": 2000}, ask, [Bodies(PAIR, [naive.chain(1998), [(0,)]]), ONE])
        self.assertIsNone(join_defect([long(118)]))
        self.assertEqual(Join([long(118)]).bodies(119), long(118))
        # Just 120 together, and too many ahead of any defect.
        self.assertEqual(sorted(join_defect([ONE, long(118)])[1]), [[0], [1]])
        self.assertIsNone(join_defect([long(58), long(58), OTHER]))

    def test_no_join(self):
        with self.assertRaises(NoJoin) as caught:
            Join([ONE, OTHER])
        self.assertIs(is_join_defect([ONE, OTHER], caught.exception.defect), True)

    def test_methods(self):
        join = Join([ONE])
        for ask in (join.is_inlined, join.lands):
            for function in NO_INTEGERS + [-1, 2, HUGE]:
                self.gives(InvalidFunction, function, ask, function, None)
            for path in NO_TUPLES + [(1,), (0, 1), (-1,), (HUGE,), [0], (0,) * 2001] + [(v,) for v in NO_INTEGERS]:
                self.gives(InvalidPath, path, ask, 0, path)
        large = Join([Bodies(PAIR, [naive.chain(118), [(0,)]])])
        for most in NO_INTEGERS + [0, -1, 401, HUGE]:
            self.gives(InvalidMost, most, join.bodies, most)
            self.gives(InvalidMost, most, large.bodies, most)
        self.raises(TooMany, {"count": 2}, large.bodies, 1)


class Defects(Case):
    def check_defect(self, parts, found):
        self.assertEqual([type(found), len(found), type(found[1])], [tuple, 2, list])
        cycle, lists = found
        self.assertIs(is_cycle(parts[0].program, cycle), True)
        calls = parts[0].program.calls
        for part, told in zip(parts, lists, strict=True):
            lengths = naive.jumps(calls, naive.sets_of(part), cycle)
            self.assertEqual(told, self.places_around(lengths))
            self.assertEqual([(tuple(told), 1)], jump_cycles(part, cycle))
        self.assertEqual(set.intersection(*map(set, lists)), set())
        self.assertIs(is_join_defect(parts, found), True)
        self.assertIs(is_join_defect(tuple(parts), (cycle, tuple(map(tuple, lists)))), True)
        self.assertEqual(join_defect(tuple(parts)), found)

    def places_around(self, lengths):
        place = 0
        for _ in lengths:
            place = (place + lengths[place]) % len(lengths)
        found = set()
        while place not in found:
            found.add(place)
            place = (place + lengths[place]) % len(lengths)
        return sorted(found)

    def test_exactly_without_a_common_successor(self):
        source, told = random.Random(133), []
        for calls, most in SMALL:
            made = naive_bodies.successors(calls, most)
            over = naive_bodies.all_above(made)
            bodies = {sets: naive.bodies_of(Program(calls), sets) for sets in made}
            all_sets = sorted(made, key=lambda sets: list(map(sorted, sets)))
            for _ in range(250):
                chosen = [source.choice(all_sets) for _ in range(source.randint(1, 3))]
                if source.random() < 0.5:
                    chosen[1:] = [source.choice(sorted(over[chosen[0]], key=lambda sets: list(map(sorted, sets))))
                                  for _ in chosen[1:]]
                parts = [bodies[sets] for sets in chosen]
                common = set.intersection(*[over[sets] for sets in chosen])
                told.append(self.check_parts(parts, {bodies[sets].inlined for sets in common}, most))
        self.assertGreater(min(told.count(True), told.count(False)), 400)

    def check_parts(self, parts, common, most):
        """`common` has all common successors of at most so many inlined paths."""
        found = join_defect(parts)
        if found is not None:
            self.assertEqual(common, set())
            self.check_defect(parts, found)
            self.raises(NoJoin, {"defect": found}, Join, parts)
            return True
        try:
            made = Join(parts).bodies(400)
        except TooMany:
            self.assertEqual(common, set())
            return False
        self.assertTrue(all(is_successor(made, part) for part in parts))
        self.assertEqual(made.inlined in common, made.size() <= most)
        for inlined in sorted(common)[:20]:
            self.assertIs(is_successor(Bodies(made.program, inlined), made), True)
        return False

    def test_samples(self):
        source, told = random.Random(1331), []
        for _ in range(1500):
            parts = random_parts(source)
            found = join_defect(parts)
            told.append(found is None)
            if found is not None:
                self.check_defect(parts, found)
            else:
                # On no short cycle there is one.
                for cycle in naive_bodies.all_cycles(parts[0].program.calls, 4):
                    lists = [self.places_around(naive.jumps(part.program.calls, naive.sets_of(part), cycle))
                             for part in parts]
                    self.assertTrue(set.intersection(*map(set, lists)))
                    self.assertIs(is_join_defect(parts, (cycle, lists)), False)
        self.assertGreater(min(told.count(True), told.count(False)), 60)

    def test_three_parts_of_which_each_two_have_none(self):
        program = Program([[1], [2], [0]])
        made = naive_bodies.successors(program.calls, 6)
        bodies = [naive.bodies_of(program, sets) for sets in made]
        pairs = {(one, other) for one, other in combinations(range(len(bodies)), 2)
                 if join_defect([bodies[one], bodies[other]]) is None}
        found = 0
        for one, other in sorted(pairs):
            for third in range(other + 1, len(bodies)):
                if (one, third) in pairs and (other, third) in pairs:
                    parts = [bodies[one], bodies[other], bodies[third]]
                    defect = join_defect(parts)
                    if defect is not None:
                        self.check_defect(parts, defect)
                        found += 1
        self.assertGreater(found, 0)

    def test_equal_parts_count(self):
        self.assertIs(is_join_defect([ONE, ONE, OTHER], (AROUND, [[0], [0], [1]])), True)
        self.assertIs(is_join_defect([ONE, ONE, OTHER], (AROUND, [[0], [1]])), False)
        self.assertIsNone(join_defect([ONE, ONE, ONE]))

    def test_wrong_values(self):
        parts = [ONE, OTHER]
        self.assertIs(is_join_defect(parts=parts, value=(AROUND, [(0,), (1,)])), True)
        wrong = NO_TUPLES + [(), (AROUND,), (AROUND, [[0], [1]], 0), [AROUND, [[0], [1]]], (AROUND, [[0]]),
                             (AROUND, [[0], [1], [1]]), (AROUND, [[1], [0]]), (AROUND, [[0], []]), (AROUND, [[0, 1], [1]]),
                             ((0, (0,)), [[0], [1]]), ((0, (0, 0, 0, 0)), [[0], [1]]), (list(AROUND), [[0], [1]]),
                             ((0, [0, 0]), [[0], [1]]), (AROUND, [0, 1]), (AROUND, [[0], None]), (AROUND, None),
                             (AROUND, {}), ([[0], [1]], AROUND), (AROUND, [[0], [HUGE]]), ((1, (0, 0)), [[0], [1]])]
        wrong += [(AROUND, [[value], [1]]) for value in NO_INTEGERS]
        wrong += [(AROUND, [[0], [value]]) for value in NO_INTEGERS]
        wrong += [(AROUND, [[0], value]) for value in NO_LISTS] + [(AROUND, value) for value in NO_LISTS]
        for value in wrong:
            self.assertIs(is_join_defect(parts, value), False)
        self.assertIs(is_join_defect(parts, ((1, (0, 0)), [[1], [0]])), True)
        self.assertIs(is_join_defect([ONE], (AROUND, [[0]])), False)

    def test_long_cycles(self):
        program, count = Program([[0, 1], [0, 1]]), 100000
        parts = [Bodies(program, [[(1,)], []]), Bodies(program, [[], [(0,)]])]
        path = (0,) * (count - 2) + (1, 0)
        lists = [[place for place in range(count) if place != count - 1], list(range(1, count))]
        self.assertIs(is_join_defect(parts, ((0, path), lists)), False)
        self.assertIs(is_join_defect(parts, ((0, (1, 0)), [[0], [1]])), True)


class Joins(Case):
    def test_as_all_parts_land(self):
        source, long = random.Random(134), 0
        for _ in range(400):
            parts = random_parts(source)
            if join_defect(parts) is not None:
                continue
            join, calls = Join(parts), parts[0].program.calls
            for function in range(len(calls)):
                for path in naive_bodies.all_paths(calls, function, 6):
                    landed = [set(naive_bodies.landings(calls, naive.sets_of(part), function, path)) for part in parts]
                    common = sorted(set.intersection(*landed))
                    self.assertEqual(join.lands(function, path), common)
                    self.assertIs(join.is_inlined(function, path), not common)
                    long += len(common) > 2
        self.assertGreater(long, 100)

    def test_bodies(self):
        source, sizes = random.Random(1341), set()
        for _ in range(400):
            parts = random_parts(source)
            if join_defect(parts) is not None:
                continue
            join = Join(tuple(parts))
            rows = self.rows_of(join, parts[0].program)
            count = sum(map(len, rows))
            sizes.add(count)
            if count <= 400:
                made = Bodies(parts[0].program, rows)
                for most in {max(count, 1), min(count + 1, 400), 400}:
                    self.assertEqual(join.bodies(most), made)
                self.assertIs(type(join.bodies(400)), Bodies)
                self.assertIsNone(witness(made))
                if len(parts) == 1:
                    self.assertEqual(made, parts[0])
            for most in {1, count // 2, count - 1, 400} - {0, -1}:
                if most < count and most <= 400:
                    self.raises(TooMany, {"count": most + 1}, join.bodies, most)
        self.assertGreater(max(sizes), 12)
        self.assertIn(0, sizes)

    def rows_of(self, join, program):
        """The inlined paths of a join, by is_inlined; of many, some more than 400."""
        rows = []
        for function in range(len(program)):
            row, rest = [], [()]
            while rest and len(row) <= 401:
                path = rest.pop()
                standing = naive.end(program.calls, function, path)
                grown_paths = [path + (call,) for call in range(len(program.calls[standing]))]
                inlined = [one for one in grown_paths if join.is_inlined(function, one)]
                row += inlined
                rest += inlined
            rows.append(row)
        return rows

    def test_just_400_paths(self):
        # All calls of 6 stand inlined with its original body in one part, and its body is changed in the other one.
        rows = [[6] * 8] * 5 + [[6] * 3 + [7] * 5, [7] * 8, []]
        for last, count in ((rows[5], 400), ([6] * 4 + [7] * 4, 408), ([6] * 3 + [7] * 4, 399), ([7] * 8, 376)):
            program = Program(rows[:5] + [last] + rows[6:])
            inlined = [[(call,) for call in range(len(row))] for row in program.calls]
            one, other = inlined[:6] + [[], []], [[]] * 6 + inlined[6:]
            join = Join([Bodies(program, one), Bodies(program, other)])
            both = [[(call,) for call in range(8)] for _ in range(5)] + [inlined[5], inlined[6], []]
            for function in range(6):
                calls = [call for call, callee in enumerate(program.calls[function]) if callee == 6]
                both[function] += [(call, behind) for call in calls for behind in range(8)]
            self.assertEqual(sum(map(len, both)), count)
            if count <= 400:
                self.assertEqual(join.bodies(count), Bodies(program, both))
                self.assertEqual(join.bodies(400), Bodies(program, both))
            else:
                self.raises(TooMany, {"count": 401}, join.bodies, 400)
            for most in (1, 8, 72, 360, 375, 398, 399):
                if most < count:
                    self.raises(TooMany, {"count": most + 1}, join.bodies, most)
            self.assertEqual([join.lands(0, (3,)), join.is_inlined(0, (3, 7)), join.lands(7, ())], [[], True, []])

    def test_more_than_2000_paths(self):
        program = Program([[5] * 8] * 5 + [[6] * 8, [7] * 8, [7]])
        one = Bodies(program, [[(call,) for call in range(8)]] * 5 + [[]] * 3)
        row = [(call,) for call in range(8)]
        other = Bodies(program, [[]] * 5 + [row + list(product(range(8), repeat=2)), [], []])
        join = Join([one, other])
        self.raises(TooMany, {"count": 401}, join.bodies, 400)
        self.assertEqual([join.is_inlined(4, (7, 3, 5)), join.lands(4, (7, 3, 5, 0)), join.lands(5, (3, 5))],
                         [True, [4], []])
        self.assertEqual(join.lands(4, (7, 3, 5) + (0,) * 1997), list(range(4, 2001)))

    def test_long_paths(self):
        one = Bodies(PAIR, [naive.chain(118), [(0,)]])
        join, path = Join([one]), (0,) * 2000
        landed = naive_bodies.landings(PAIR.calls, naive.sets_of(one), 0, path)
        self.assertEqual(join.lands(0, path), landed)
        self.assertEqual([join.is_inlined(0, path), join.is_inlined(0, path[:118]), join.is_inlined(0, path[:119])],
                         [False, True, False])
        self.assertEqual([join.lands(0, ()), join.is_inlined(0, ()), join.lands(1, ())], [[], True, []])

    def test_laws(self):
        """Point [135], and the join of one part."""
        source, three = random.Random(135), 0
        for _ in range(400):
            parts = random_parts(source)
            if join_defect(parts) is not None:
                continue
            try:
                made = Join(parts).bodies(400)
            except TooMany:
                continue
            for other in permutations(parts):
                self.assertEqual(Join(list(other)).bodies(400), made)
            self.assertEqual(Join(parts[:1] * 3).bodies(400), parts[0])
            if len(parts) == 3:
                first = Join(parts[:2]).bodies(400)
                if first.size() + parts[2].size() <= 120:
                    self.assertEqual(Join([first, parts[2]]).bodies(400), made)
                    three += 1
            for part in parts:
                self.assertEqual(meet(part, made), part)
                self.assertEqual(Join([parts[0], meet(parts[0], part)]).bodies(400), parts[0])
        self.assertGreater(three, 40)

    def test_kinds_of_arguments(self):
        parts = [OTHER, MORE]
        join = Join(parts=parts)
        self.assertEqual([join.is_inlined(function=0, path=(0,)), join.lands(function=0, path=(0, 0, 0))], [True, [3]])
        self.assertEqual(join.bodies(most=3), MORE)
        parts.clear()
        join.lands(0, (0, 0, 0)).clear()
        self.assertEqual([join.lands(0, (0, 0, 0)), join.bodies(3)], [[3], MORE])
        self.assertEqual(open_paths(join.bodies(400), 0), [(0, 0, 0)])
        defect = join_defect(parts=[ONE, OTHER])
        defect[1][0].clear()
        defect[1].clear()
        self.assertEqual(len(join_defect([ONE, OTHER])[1]), 2)
        self.assertEqual([ONE, OTHER], [Bodies(PAIR, [[(0,)], []]), Bodies(PAIR, [[], [(0,)]])])
