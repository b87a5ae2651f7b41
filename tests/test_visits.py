import random

from ringstays.bodies import Bodies
from ringstays.errors import InvalidFunction, InvalidVisits, TooMany
from ringstays.passes import apply_pass
from ringstays.programs import Program, complete
from ringstays.visits import run_visits, visit
from tests import naive
from tests.cases import HUGE, NO_INTEGERS, NO_LISTS, Case

WRONG_ROWS = NO_LISTS + [[8], [-1], [HUGE], [0, 8], [0] * 25, (0,) * 25, [[0]], [(0,)]]
WRONG_ROWS += [[value] for value in NO_INTEGERS] + [[0, value] for value in NO_INTEGERS]


class Examples(Case):
    def test_examples(self):
        self.assertEqual(run_visits(Program([[1, 2, 0], [2], [0]]), [1, 0]).inlined,
                         (((0,), (0, 0), (1,)), ((0,),), ()))


class OneVisit(Case):
    def setUp(self):
        self.program = Program([[1, 0, 2], [2, 0, 1], [0]])
        self.rows = [[(0,), (0, 0)], [(0,), (2,)], [(0,)]]
        self.bodies = Bodies(self.program, self.rows)

    def test_all_open_calls_of_others_at_once(self):
        made = visit(bodies=self.bodies, function=0)
        # (0, 2) is a call of 1 within the copy of 1, (2,) calls 2; the self calls (0, 0, 0), (0, 1) and (1,) stay.
        self.assertEqual(made.inlined[0], ((0,), (0, 0), (0, 2), (0, 2, 0), (0, 2, 2), (2,), (2, 0)))
        self.assertEqual(made.inlined[1:], self.bodies.inlined[1:])
        self.assertIs(type(made), Bodies)
        self.assertEqual(made.program, self.program)
        self.assertEqual(self.bodies, Bodies(self.program, self.rows))

    def test_calls_that_the_visit_opens_stay_open(self):
        made = visit(Bodies(Program([[1], [2], [1]])), 0)
        self.assertEqual(made.inlined, (((0,),), (), ()))
        self.assertEqual(visit(made, 0).inlined, (((0,), (0, 0)), (), ()))

    def test_nothing_to_inline(self):
        for program in (Program([[]]), Program([[0, 0]]), complete(1)):
            self.assertEqual(visit(Bodies(program), 0), Bodies(program))

    def test_wrong_functions(self):
        for value in NO_INTEGERS + [3, -1, HUGE]:
            self.gives(InvalidFunction, value, visit, self.bodies, value)
        over = Bodies(Program([[1, 1], [1]]), [[], naive.chain(1000)])
        self.raises(TooMany, {"count": 3002}, visit, over, 0)
        self.gives(InvalidFunction, 2, visit, over, 2)

    def test_limits(self):
        program = Program([[1, 1, 2], [1], []])
        edge = Bodies(program, [[], naive.chain(665), []])
        made = visit(edge, 0)
        self.assertEqual(made.size(), 665 + 2 * 666 + 1)
        edge = Bodies(Program([[1, 1], [1]]), [[], naive.chain(666)])
        self.assertEqual(visit(edge, 0).size(), 2000)
        over = Bodies(Program([[1, 1], [1], [0]]), [[], naive.chain(666), [(0,)]])
        self.raises(TooMany, {"count": 2001}, visit, over, 0)
        self.assertEqual(visit(over, 1), over)
        full = Bodies(Program([[0, 1], []]), [naive.chain(2000), []])
        self.raises(TooMany, {"count": 4001}, visit, full, 0)
        self.assertEqual(visit(full, 1), full)

    def test_calls_to_several_others_count_together(self):
        program = Program([[1, 2, 1], [1], [2], [1]])
        self.assertEqual(visit(Bodies(program, [[], naive.chain(400), naive.chain(398), []]), 0).size(), 2000 - 1)
        self.raises(TooMany, {"count": 2001}, visit,
                    Bodies(program, [[], naive.chain(400), naive.chain(398), [(0,), (0, 0)]]), 0)

    def test_as_told(self):
        for program, _, bodies in naive.samples(46, 150, 5):
            for function in range(len(program)):
                sets = naive.sets_of(bodies)
                naive.visit(program.calls, sets, function)
                self.assertEqual(visit(bodies, function), naive.bodies_of(program, sets))


class Rows(Case):
    def test_functions_that_the_program_lacks_are_passed_over(self):
        program = Program([[1], [0, 0]])
        made = run_visits(program=program, order=[7, 1, 2, 0, 7])
        self.assertEqual(made, visit(visit(Bodies(program), 1), 0))
        self.assertEqual(run_visits(program, (1, 0)), made)
        self.assertEqual(run_visits(program, []), Bodies(program))
        self.assertEqual(run_visits(program, [7] * 24), Bodies(program))

    def test_arguments_stay(self):
        order = [0, 1]
        run_visits(Program([[1], [0]]), order)
        self.assertEqual(order, [0, 1])

    def test_wrong_rows(self):
        self.assertEqual(run_visits(Program([[0]]), [0] * 24), Bodies(Program([[0]])))
        for value in WRONG_ROWS:
            self.gives(InvalidVisits, value, run_visits, Program([[1], [0]]), value)
        # A wrong item behind visits that pass the limit counts first.
        order = [0, 1] * 11 + [8]
        self.gives(InvalidVisits, order, run_visits, complete(2), order)

    def test_too_many(self):
        program = Program([[1, 1], [0]])
        # Behind every second visit the bodies double.
        self.assertEqual(run_visits(program, [0, 1] * 9 + [0]).size(), 1535)
        order = [0, 1] * 12
        self.raises(TooMany, {"count": 3071}, run_visits, program, order)
        self.assertEqual(order, [0, 1] * 12)

    def test_just_the_limit(self):
        program = Program([[0, 3, 2, 0, 3, 2, 2, 1], [1, 3], [2, 0, 3], [1, 1]])
        self.assertEqual(run_visits(program, [0, 1, 2, 2, 2, 2]).size(), 2000)
        program = Program([[1], [0, 1, 2, 0, 0], [1, 2, 0, 0, 0]])
        self.assertLess(run_visits(program, [0, 0, 2, 0, 1]).size(), 2000)
        self.raises(TooMany, {"count": 2001}, run_visits, program, [0, 0, 2, 0, 1, 2])
        # The first visit behind which there are too many paths tells the count.
        self.raises(TooMany, {"count": 2001}, run_visits, program, (0, 0, 2, 0, 1, 2, 1, 0))

    def test_as_told(self):
        source = random.Random(46)
        for _ in range(150):
            program = naive.random_program(source)
            order = [source.randrange(6) for _ in range(source.randint(0, 5))]
            sets = [set() for _ in program.calls]
            for function in order:
                if function < len(program):
                    naive.visit(program.calls, sets, function)
            if sum(map(len, sets)) <= 2000:
                self.assertEqual(run_visits(program, order), naive.bodies_of(program, sets))

    def test_a_visit_is_passes_one_after_another_on_two_functions(self):
        source = random.Random(47)
        for _ in range(40):
            program = naive.random_program(source, 2)
            if len(program) == 2:
                bodies = Bodies(program)
                for function in (0, 1, 0, 1):
                    self.assertEqual(visit(bodies, function), apply_pass(bodies, ("now", function, 1 - function)))
                    bodies = visit(bodies, function)
