import random

from ringstays.bodies import Bodies, open_paths
from ringstays.edits import edit_program, edited, moved_log
from ringstays.errors import InvalidEdit, InvalidLog
from ringstays.keeping import is_reachable_kept
from ringstays.logs import apply_log
from ringstays.programs import Program, names
from ringstays.reaching import is_reachable
from tests import naive
from tests.cases import HUGE, NO_INTEGERS, NO_TUPLES, Case
from tests.test_causes import samples
from tests.test_keeping import groups_of
from tests.test_logs import WRONG_LOGS
from tests.test_reaching import mixed

PROGRAM = Program([[2, 1], [2], [1]])
LOG = [(1, (0,), "now"), (0, (1,), "now"), (0, (1, 0, 0), "first")]
STRIKE = ("strike", 0, 0)
FULL = Program([[0] * 8, [1] * 7])

WRONG_EDITS = NO_TUPLES + [(), ("add", 0), ("add", 0, 0, 0), ["add", 0, 0], ("add", 3, 0), ("add", 0, 3),
                           ("add", -1, 0),
                           ("add", 0, -1), ("add", HUGE, 0), ("strike", 0, 2), ("strike", 1, 1), ("strike", 0, -1),
                           ("strike", 3, 0), ("strike", 0, HUGE), (0, 0, "add"), ("add", [0], 0), ("strike", 0, (0,))]
WRONG_EDITS += [(kind, 0, 0) for kind in (None, True, 0, "", "Add", "addstrike", "stri", ["add"], ("add",), {},
                                          PROGRAM)]
WRONG_EDITS += [(kind, value, 0) for value in NO_INTEGERS for kind in ("add", "strike")]
WRONG_EDITS += [(kind, 0, value) for value in NO_INTEGERS for kind in ("add", "strike")]


def edits_of(program):
    calls = program.calls
    found = [("strike", function, call) for function in range(len(calls)) for call in range(len(calls[function]))]
    return found + [("add", function, callee) for function in range(len(calls)) for callee in range(len(calls))
                    if len(calls[function]) < 8]


def moved(calls, function, path, edit):
    """The path behind a strike, None if it goes through the call: call by call, by the words of point [143]."""
    found = []
    for at, call in enumerate(path):
        place = naive.end(calls, function, path[:at])
        if edit[0] == "strike" and (place, call) == edit[1:]:
            return None
        found.append(call - (edit[0] == "strike" and place == edit[1] and call > edit[2]))
    return tuple(found)


class Examples(Case):
    def test_examples(self):
        bodies = Bodies(PROGRAM)
        self.assertEqual([edit_program(PROGRAM, STRIKE).calls, edit_program(PROGRAM, ("add", 2, 0)).calls],
                         [((1,), (2,), (1,)), ((2, 1), (2,), (1, 0))])
        self.assertEqual([moved_log(PROGRAM, LOG, STRIKE)[1:], moved_log(PROGRAM, LOG, ("strike", 1, 0))],
                         [[(0, (0,), "now"), (0, (0, 0, 0), "first")], [(0, (1,), "now")]])
        self.assertEqual(edited(apply_log(bodies, LOG), STRIKE),
                         apply_log(edited(bodies, STRIKE), moved_log(PROGRAM, LOG, STRIKE)))


class Errors(Case):
    def test_wrong_edits(self):
        for edit in WRONG_EDITS:
            self.gives(InvalidEdit, edit, edit_program, PROGRAM, edit)
            self.gives(InvalidEdit, edit, edited, Bodies(PROGRAM), edit)
            self.gives(InvalidEdit, edit, moved_log, PROGRAM, LOG, edit)

    def test_rows_of_eight_calls(self):
        edit = ("add", 0, 1)
        for ask, value in ((edit_program, FULL), (edited, Bodies(FULL))):
            self.gives(InvalidEdit, edit, ask, value, edit)
        self.gives(InvalidEdit, edit, moved_log, FULL, [], edit)
        self.assertEqual(edit_program(FULL, ("add", 1, 0)).calls, ((0,) * 8, (1,) * 7 + (0,)))
        self.assertEqual(edit_program(FULL, ("strike", 0, 7)).calls, ((0,) * 7, (1,) * 7))
        empty = ("strike", 1, 0)
        self.gives(InvalidEdit, empty, edit_program, Program([[1], []]), empty)

    def test_wrong_logs_come_first(self):
        wrong = WRONG_LOGS + [[(3, (0,), "now")], [(7, (0,), "first")], [(0, (2,), "now")], [(0, (0, 1), "now")],
                              LOG + [(1, (0, 0, 1), "first")], [(0, (0,) * 2000 + (0,), "now")]]
        for log in wrong:
            self.gives(InvalidLog, log, moved_log, PROGRAM, log, STRIKE)
            self.gives(InvalidLog, log, moved_log, PROGRAM, log, None)
        # The steps need not be such as can be done.
        for log in (LOG[::-1], LOG + LOG, [(0, (0,) * 2000, "now")], []):
            self.assertEqual(moved_log(PROGRAM, log, ("add", 0, 0)), log)
            self.gives(InvalidEdit, "add", moved_log, PROGRAM, log, "add")


class Edits(Case):
    def check_program(self, program, edit):
        calls = [list(row) for row in program.calls]
        if edit[0] == "add":
            calls[edit[1]].append(edit[2])
        else:
            calls[edit[1]].pop(edit[2])
        self.assertEqual(edit_program(program, edit), Program(calls))
        return calls

    def test_samples(self):
        for at, (bodies, log, behind) in enumerate(samples(143, 300, 7)):
            program, made = bodies.program, naive.bodies_of(bodies.program, behind)
            for edit in edits_of(program)[at % 2::2]:
                calls = self.check_program(program, edit)
                found = edited(made, edit)
                rows = [[moved(program.calls, function, path, edit) for path in paths]
                        for function, paths in enumerate(behind)]
                self.assertEqual(found, Bodies(Program(calls), [[path for path in row if path] for row in rows]))
                steps = [(function, moved(program.calls, function, path, edit), mode) for function, path, mode in log]
                left = moved_log(program, log, edit)
                self.assertEqual(left, [step for step in steps if step[1]])
                self.assertEqual(apply_log(edited(bodies, edit), left), found)

    def test_names_stay(self):
        for program, sets in mixed(1430, 60, 3):
            for edit in edits_of(program):
                found = edited(naive.bodies_of(program, sets), edit)
                for function, row in enumerate(found.inlined):
                    told = {names(program, function, path) for path in sets[function]
                            if moved(program.calls, function, path, edit)}
                    self.assertEqual({names(found.program, function, path) for path in row}, told)

    def test_an_added_call_is_open_wherever_it_stands(self):
        bodies = apply_log(Bodies(PROGRAM), LOG)
        found = edited(bodies, ("add", 2, 0))
        self.assertEqual(found.inlined, bodies.inlined)
        self.assertEqual(set(open_paths(found, 0)) - set(open_paths(bodies, 0)), {(1, 0, 1)})
        self.assertEqual(open_paths(found, 2), [(0,), (1,)])

    def test_strikes_at_the_end_in_the_middle_and_several_times(self):
        program = Program([[1, 1], [0, 1]])
        bodies = Bodies(program, [[(0,), (0, 0), (0, 0, 1), (1,), (1, 1), (1, 1, 1)], [(0,), (0, 1)]])
        self.assertEqual(edited(bodies, ("strike", 1, 1)).inlined, (((0,), (0, 0), (0, 0, 1), (1,)), ((0,), (0, 1))))
        self.assertEqual(edited(bodies, ("strike", 0, 0)).inlined, (((0,), (0, 1), (0, 1, 1)), ((0,), (0, 0))))
        self.assertEqual(edited(bodies, ("strike", 1, 0)).inlined, (((0,), (1,), (1, 0), (1, 0, 0)), ()))
        twice = edited(edited(bodies, ("strike", 0, 0)), ("strike", 0, 0))
        self.assertEqual([twice.program.calls, twice.inlined], [((), (0, 1)), ((), ((0,),))])

    def test_reachable_bodies_stay_reachable(self):
        told = 0
        for program, sets in mixed(144, 250, 3):
            bodies = naive.bodies_of(program, sets)
            for edit in edits_of(program):
                found = edited(bodies, edit)
                if is_reachable(bodies):
                    self.assertIs(is_reachable(found), True)
                for group in groups_of(program):
                    if is_reachable_kept(bodies, group):
                        self.assertIs(is_reachable_kept(found, group), True)
                        told += 1
        self.assertGreater(told, 2000)

    def test_large_bodies(self):
        program = Program([[1, 1], [0, 0]])
        bodies = Bodies(program, [naive.chain(1000), [(1,) * length for length in range(1, 1001)]])
        # Every other call of the long paths of function 1 is the call 1 of function 0, which has the number 0 then.
        self.assertEqual(edited(bodies, ("strike", 0, 0)).inlined, ((), tuple(((1, 0) * 500)[:length]
                                                                              for length in range(1, 1001))))
        self.assertEqual(edited(bodies, ("strike", 0, 1)).inlined, (tuple(naive.chain(1000)), ((1,),)))
        self.assertEqual(edited(bodies, ("add", 0, 0)).inlined, bodies.inlined)

    def test_kinds_of_arguments(self):
        self.assertEqual(edit_program(program=PROGRAM, edit=STRIKE).calls, ((1,), (2,), (1,)))
        self.assertEqual(edited(bodies=Bodies(PROGRAM, [[(0,), (1,)], [], []]), edit=STRIKE).inlined, (((0,),), (), ()))
        log = tuple(LOG)
        found = moved_log(program=PROGRAM, log=log, edit=("add", 0, 0))
        self.assertEqual([found, type(found)], [LOG, list])
        found.clear()
        kept = list(LOG)
        moved_log(PROGRAM, LOG, ("add", 0, 0)).clear()
        self.assertEqual([LOG, PROGRAM.calls], [kept, ((2, 1), (2,), (1,))])
        self.assertEqual(len(moved_log(PROGRAM, LOG, STRIKE)), 3)
