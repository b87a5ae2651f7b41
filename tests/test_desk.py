import random

from ringstays.bodies import Bodies
from ringstays.desk import Desk
from ringstays.errors import HasFoldings, InlineError, InvalidFunction, InvalidIndexes, InvalidMode, InvalidPass
from ringstays.errors import InvalidPath, LongName, NotInlined, NothingToRedo, NothingToUndo, NotOpen, NotPresent
from ringstays.errors import SelfCall, TooMany, TooManyCalls, TooNested
from ringstays.flat import flat
from ringstays.lines import read_source
from ringstays.logs import apply_log
from ringstays.passes import apply_pass, is_idle, pass_log
from ringstays.skips import skipped
from ringstays.source import Source, program_of
from ringstays.steps import fold_call, foldable, inlinable, inline_call
from tests import naive, naive_source
from tests.cases import HUGE, NO_INTEGERS, NO_TUPLES, Case
from tests.test_passes import WRONG_PASSES
from tests.test_skips import WRONG_INDEXES

CALLS = Source([((), [("call", None, 1, ()), ("call", None, 1, ())]), ((), [("call", None, 0, ())])])


def of_calls(*rows):
    """A source whose functions do nothing but call."""
    return Source([((), [("call", None, callee, ()) for callee in row]) for row in rows])


class Model:
    """What a desk is to be: a list of states (bodies, journal), and which of them is the present one."""

    def __init__(self, source):
        self.states, self.at = [(Bodies(program_of(source)), [])], 0

    def now(self):
        return self.states[self.at]

    def put(self, bodies, journal):
        if journal != self.now()[1]:
            self.states[self.at + 1:] = [(bodies, journal)]
            self.at += 1


class Examples(Case):
    def test_examples(self):
        desk = Desk(CALLS)
        self.assertEqual([desk.inline(1, (0,), mode="first"), desk.run_pass(("now", 0, 1)), desk.skip([1]), desk.undo(),
                          desk.undo()], [None] * 5)
        self.assertEqual([desk.journal(), desk.redo(), len(desk.journal())], [[("inline", 1, (0,), "first")], None, 3])


class Errors(Case):
    def test_too_many_calls(self):
        source = of_calls([1], [0] * 9)
        self.raises(TooManyCalls, {"function": 1}, Desk, source)

    def unchanged(self, desk, kept):
        self.assertEqual([desk.bodies(), desk.journal()], kept)

    def test_inline(self):
        desk = Desk(of_calls([1, 0], [0]))
        kept = [desk.bodies(), desk.journal()]
        for mode in (None, True, 0, "", "Now", "later", "nowfirst", ["now"], ("now",), {}, desk.bodies()):
            self.gives(InvalidMode, mode, desk.inline, 0, (0,), mode)
            self.gives(InvalidMode, mode, desk.inline, None, None, mode=mode)
        for function in NO_INTEGERS + [-1, 2, HUGE]:
            self.gives(InvalidFunction, function, desk.inline, function, None)
        for path in NO_TUPLES + [(2,), [0], (0, 1)] + [(value,) for value in NO_INTEGERS]:
            if path != ():
                self.gives(InvalidPath, path, desk.inline, 0, path)
        self.raises(NotOpen, {"path": ()}, desk.inline, 0, ())
        self.raises(NotOpen, {"path": (0, 0)}, desk.inline, 0, (0, 0), "first")
        self.raises(SelfCall, {"function": 0}, desk.inline, 0, (1,))
        self.unchanged(desk, kept)
        desk.inline(0, (1,), "first")
        self.raises(NotOpen, {"path": (1,)}, desk.inline, 0, (1,), "first")
        self.assertEqual(desk.journal(), [("inline", 0, (1,), "first")])

    def test_fold(self):
        desk = Desk(of_calls([1], [0]))
        for function in NO_INTEGERS + [-1, 2, HUGE]:
            self.gives(InvalidFunction, function, desk.fold, function, None)
        for path in NO_TUPLES + [(1,), [0]]:
            if path != ():
                self.gives(InvalidPath, path, desk.fold, 0, path)
        self.raises(NotInlined, {"path": (0,)}, desk.fold, 0, (0,))
        self.raises(NotInlined, {"path": ()}, desk.fold, 0, ())
        desk.inline(0, (0,))
        desk.inline(1, (0,))
        self.raises(NotPresent, {"part": (0,)}, desk.fold, 0, (0,))
        self.assertEqual(desk.fold(1, (0,)), None)
        self.assertEqual([desk.journal()[-1], len(desk.journal())], [("fold", 1, (0,)), 3])

    def test_run_pass(self):
        desk = Desk(of_calls([1], [0]))
        for one in WRONG_PASSES:
            self.gives(InvalidPass, one, desk.run_pass, one)
        self.unchanged(desk, [Bodies(program_of(of_calls([1], [0]))), []])

    def test_too_many(self):
        desk = Desk(of_calls([1] * 8, [2] * 8, [3] * 8, [4] * 8, []))
        for one in (("now", 3, 4), ("now", 2, 3), ("now", 1, 2)):
            desk.run_pass(one)
        kept = [desk.bodies(), desk.journal()]
        count = desk.bodies().size() + 8 * (1 + len(desk.bodies().inlined[1]))
        self.assertGreater(count, 2000)
        self.raises(TooMany, {"count": count}, desk.run_pass, ("now", 0, 1))
        self.unchanged(desk, kept)

    def test_skip(self):
        desk = Desk(CALLS)
        desk.run_pass(("now", 0, 1))
        desk.inline(1, (0,), "first")
        for indexes in WRONG_INDEXES:
            self.gives(InvalidIndexes, indexes, desk.skip, indexes)
        self.assertEqual(len(desk.journal()), 3)
        # Foldings come ahead of all that the indexes are.
        desk.skip([2])
        desk.fold(0, (1,))
        self.assertEqual([item[0] for item in desk.journal()], ["inline", "inline", "fold"])
        for indexes in (None, [], [0], [9], "a"):
            self.raises(HasFoldings, {"at": 2}, desk.skip, indexes)
        desk.inline(0, (1,))
        desk.fold(0, (0,))
        self.raises(HasFoldings, {"at": 2}, desk.skip, [0])

    def test_skips_of_long_journals(self):
        desk = Desk(of_calls([0]))
        for length in range(1, 401):
            desk.inline(0, (0,) * length, "first")
        desk.skip([])
        self.assertEqual(len(desk.journal()), 400)
        desk.inline(0, (0,) * 401, "first")
        self.raises(TooMany, {"count": 401}, desk.skip, [])
        self.raises(TooMany, {"count": 401}, desk.skip, None)
        desk.undo()
        desk.skip([7])
        self.assertEqual([len(desk.journal()), desk.bodies().size()], [7, 7])

    def test_flat(self):
        desk = Desk(of_calls([0]))
        for length in range(1, 42):
            self.assertEqual(len(desk.flat().source), 1)
            desk.inline(0, (0,) * length, "first")
        self.raises(TooNested, {"function": 0}, desk.flat)
        long = Desk(Source([(("a" * 39,), [])]))
        self.raises(LongName, {"name": "a" * 39 + "x0"}, long.flat)

    def test_nothing_to_undo_and_to_redo(self):
        desk = Desk(CALLS)
        for _ in range(2):
            self.assertEqual(vars(self.raises(NothingToUndo, {}, desk.undo)), {})
            self.assertEqual(vars(self.raises(NothingToRedo, {}, desk.redo)), {})
        desk.inline(0, (0,))
        self.raises(NothingToRedo, {}, desk.redo)
        desk.undo()
        self.raises(NothingToUndo, {}, desk.undo)
        desk.redo()
        self.raises(NothingToRedo, {}, desk.redo)
        self.assertEqual(desk.journal(), [("inline", 0, (0,), "now")])


class Desks(Case):
    def check_journal(self, source, desk):
        """The journal done on a new desk makes the same bodies and the same journal."""
        new = Desk(source)
        for kind, *told in desk.journal():
            self.assertIsNone(new.inline(*told) if kind == "inline" else new.fold(*told))
        self.assertEqual([new.bodies(), new.journal()], [desk.bodies(), desk.journal()])

    def deed(self, source, desk, model):
        """Do something by chance at the desk, and what it is to do to the model."""
        bodies, journal = model.now()
        kind = source.choice(["inline"] * 4 + ["first"] * 2 + ["fold", "pass", "pass", "skip", "undo", "undo", "redo",
                                                               "redo"])
        steps = inlinable(bodies)
        if kind in ("inline", "first") and steps and bodies.size() < 40:
            function, path = source.choice(steps)
            mode = "now" if kind == "inline" else "first"
            self.assertIsNone(desk.inline(function, path, mode))
            model.put(inline_call(bodies, function, path, original=mode == "first"),
                      journal + [("inline", function, path, mode)])
        elif kind == "fold" and foldable(bodies):
            function, path = source.choice(foldable(bodies))
            self.assertIsNone(desk.fold(function, path))
            model.put(fold_call(bodies, function, path), journal + [("fold", function, path)])
        elif kind == "pass" and bodies.size() < 40:
            one = naive.random_passes(source, 1, len(bodies.program) + 1)[0]
            self.assertIsNone(desk.run_pass(one))
            model.put(apply_pass(bodies, one), journal + [("inline", *step) for step in pass_log(bodies, one)])
            kind = "idle" if is_idle(bodies, one) else kind
        elif kind == "skip":
            kind = self.skip(source, desk, model)
        elif kind in ("undo", "redo"):
            kind = self.back_or_on(desk, model, kind)
        return kind

    def skip(self, source, desk, model):
        _, journal = model.now()
        folds = [at for at, item in enumerate(journal) if item[0] == "fold"]
        indexes = sorted(source.sample(range(len(journal)), min(len(journal), source.randint(0, 2))))
        if folds:
            self.raises(HasFoldings, {"at": folds[0]}, desk.skip, indexes)
            return "foldings"
        self.assertIsNone(desk.skip(indexes))
        behind, done = skipped(Bodies(model.now()[0].program), [item[1:] for item in journal], indexes)
        model.put(behind, [journal[at] for at in done])
        return "skip" if indexes else "skip nothing"

    def back_or_on(self, desk, model, kind):
        goal = model.at + (1 if kind == "redo" else -1)
        if 0 <= goal < len(model.states):
            self.assertIsNone(desk.undo() if kind == "undo" else desk.redo())
            model.at = goal
            return kind
        self.raises(NothingToUndo if kind == "undo" else NothingToRedo, {}, desk.undo if kind == "undo" else desk.redo)
        return "no " + kind

    def test_samples(self):
        source, kinds = random.Random(184), []
        for _ in range(120):
            made = naive_source.Sampler(source, 4).made()
            desk, model = Desk(made), Model(made)
            for _ in range(25):
                kinds.append(self.deed(source, desk, model))
                bodies, journal = model.now()
                self.assertEqual([desk.bodies(), desk.journal()], [bodies, journal])
                self.assertTrue(desk.source() == made)
                self.check_flat(desk, made, bodies)
            self.check_journal(made, desk)
        for kind in ("inline", "first", "fold", "pass", "idle", "skip", "skip nothing", "foldings", "undo", "redo",
                     "no undo",
                     "no redo"):
            self.assertGreater(kinds.count(kind), 20, kind)

    def check_flat(self, desk, made, bodies):
        try:
            right = flat(made, bodies)
        except InlineError as error:
            self.raises(type(error), vars(error), desk.flat)
        else:
            self.assertTrue(desk.flat().source == right.source)

    def test_no_deeds(self):
        """What does not change the journal leaves what there is to redo."""
        desk = Desk(CALLS)
        desk.inline(0, (0,))
        desk.inline(0, (1,))
        desk.undo()
        for idle in (("now", 1, 2), ("first", 7, 0), ("first", 1, 1), ("now", 2, 1)):
            desk.run_pass(idle)
        desk.skip([])
        with self.assertRaises(InlineError):
            desk.inline(0, (0,))
        desk.flat()
        desk.redo()
        self.assertEqual(desk.journal(), [("inline", 0, (0,), "now"), ("inline", 0, (1,), "now")])
        self.raises(NothingToRedo, {}, desk.redo)

    def test_undo_behind_skips_and_passes(self):
        desk = Desk(CALLS)
        desk.run_pass(("now", 0, 1))
        desk.inline(1, (0,))
        whole = desk.journal()
        desk.skip([0])
        left = [("inline", 0, (1,), "now"), ("inline", 1, (0,), "now")]
        self.assertEqual(desk.journal(), left)
        desk.skip([0])
        self.assertEqual([desk.journal(), desk.bodies().inlined], [left[1:], ((), ((0,),))])
        for journal in (left, whole, whole[:2], []):
            desk.undo()
            self.assertEqual(desk.journal(), journal)
            self.assertEqual(desk.bodies(), apply_log(Bodies(program_of(CALLS)), [item[1:] for item in journal]))
        self.raises(NothingToUndo, {}, desk.undo)
        for journal in (whole[:2], whole, left, left[1:]):
            desk.redo()
            self.assertEqual(desk.journal(), journal)
        # A skip of all, and a new deed behind an undo.
        desk.skip([0])
        self.assertEqual([desk.journal(), desk.bodies().size()], [[], 0])
        desk.undo()
        desk.undo()
        self.assertEqual(desk.journal(), left)
        desk.inline(0, (0,))
        self.raises(NothingToRedo, {}, desk.redo)
        self.assertEqual(desk.journal(), left + [("inline", 0, (0,), "now")])

    def test_a_fold_that_undoes_an_inlining_is_a_deed(self):
        desk = Desk(CALLS)
        desk.inline(0, (0,))
        desk.fold(0, (0,))
        self.assertEqual([desk.bodies().size(), len(desk.journal())], [0, 2])
        desk.undo()
        self.assertEqual(desk.bodies().size(), 1)

    def test_many_deeds(self):
        desk = Desk(CALLS)
        for _ in range(1000):
            desk.inline(0, (0,))
            desk.fold(0, (0,))
        self.assertEqual([len(desk.journal()), desk.bodies().size()], [2000, 0])
        for _ in range(2000):
            desk.undo()
        self.raises(NothingToUndo, {}, desk.undo)

    def test_two_desks(self):
        one, other = Desk(CALLS), Desk(CALLS)
        one.inline(0, (0,))
        self.assertEqual([other.journal(), other.bodies().size(), one.bodies().size()], [[], 0, 1])

    def test_kinds_of_arguments(self):
        source = read_source(["function 0", "  call 1 ()", "end", "function 1", "end"])
        desk = Desk(source=source)
        self.assertTrue(desk.source() == source)
        desk.inline(function=0, path=(0,), mode="now")
        desk.fold(function=0, path=(0,))
        desk.undo()
        desk.run_pass(one=("now", 0, 1))
        indexes = (0,)
        desk.skip(indexes=indexes)
        desk.undo()
        desk.journal().clear()
        self.assertEqual(desk.journal(), [("inline", 0, (0,), "now")])
        given = [0]
        desk.skip(given)
        given.append(1)
        self.assertEqual([desk.journal(), given, indexes], [[], [0, 1], (0,)])
