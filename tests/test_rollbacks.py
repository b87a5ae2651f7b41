import random

from ringstays.bodies import Bodies
from ringstays.errors import InvalidDeeds, InvalidStep, InvalidVersions, NotUndoable, Stopped, StuckAt
from ringstays.programs import Program
from ringstays.reaching import is_reachable
from ringstays.releases import Releases, inline_release, open_release, release, start
from ringstays.rollbacks import history, is_possible, replay, undo, undoable, undone
from tests import naive, naive_releases
from tests.cases import HUGE, NO_INTEGERS, NO_LISTS, NO_TUPLES, Case
from tests.test_releases import PROGRAM, VERSIONS, WRONG_VERSIONS
from tests.test_reaching import mixed

MIXED = Releases(PROGRAM, VERSIONS, [0, 1, 0], [[((0,), 1)], [((0, 0), 0), ((0,), 0)], []])


class Examples(Case):
    def test_examples(self):
        one = inline_release(release(start(PROGRAM, VERSIONS), 1), 0, (0,))
        two = release(inline_release(one, 1, (1,)), 1)
        self.assertEqual([two.now, undoable(one), undoable(two)],
                         [(0, 2, 0), [("fold", 0, (0,))], [("back", 1, ()), ("fold", 1, (1,))]])
        self.assertEqual(replay(PROGRAM, VERSIONS, [("release", 1, ()), ("inline", 0, (0,))]), one)
        self.assertEqual([undoable(MIXED), is_possible(MIXED)], [[], False])


class Undoing(Case):
    def test_by_the_words(self):
        kinds = []
        for program, versions, state in naive_releases.samples(124, 600):
            made = naive_releases.releases_of(program, versions, state)
            found = naive_releases.undoable(program.calls, versions, state)
            self.assertEqual(undoable(made), [step for step, _ in found])
            for step, behind in found:
                left = undo(made, step)
                self.assertEqual(left, naive_releases.releases_of(program, versions, behind))
                self.assertEqual(self.back_again(left, step), made)
                kinds.append(step[0])
        self.assertGreater(min(kinds.count("fold"), kinds.count("back")), 100)

    def back_again(self, left, step):
        kind, function, path = step
        return inline_release(left, function, path) if kind == "fold" else release(left, function)

    def test_backs(self):
        # The number counts, also where the versions are equal.
        program, versions = Program([[1], [0]]), [[(0,), (0,)], [(0,)]]
        old = Releases(program, versions, [1, 0], [[], [((0,), 0)]])
        self.assertEqual(undoable(old), [("back", 0, ())])
        new = Releases(program, versions, [1, 0], [[], [((0,), 1)]])
        self.assertEqual(undoable(new), [("fold", 1, (0,))])
        # Inlined in the function's own body, behind a call of another one.
        own = Releases(program, versions, [1, 0], [[((0,), 0), ((0, 0), 1)], []])
        self.assertEqual(undoable(own), [])
        # A call that the version before lacks.
        lacking = Releases(program, [[(), (0,)], [(0,)]], [1, 0], [[((0,), 0)], []])
        self.assertEqual(undoable(lacking), [("fold", 0, (0,))])
        self.assertEqual(undoable(Releases(program, [[(), (0,)], [(0,)]], [1, 0])), [("back", 0, ())])

    def test_folds(self):
        # The version of the path, and those in its copy, have to be the present ones.
        program, versions = Program([[1], [2], []]), [[(0,)], [(0,), (0,)], [(), ()]]
        for numbers, now, right in (((0, 0, 0), (0, 0), True), ((1, 0, 0), (0, 0), False), ((0, 1, 0), (0, 0), False),
                                    ((0, 0, 1), (0, 0), False), ((1, 1, 1), (1, 1), True), ((0, 1, 1), (1, 1), False)):
            rows = [[((0,), numbers[0]), ((0, 0), numbers[1])], [((0,), numbers[2])], []]
            made = Releases(program, versions, [0, *now], rows)
            self.assertIs(("fold", 0, (0,)) in undoable(made), right)

    def test_self_calls_are_never_folded(self):
        made = Releases(Program([[0, 0]]), [[(0, 1)]], [0], [[((0,), 0), ((0, 1), 0)]])
        self.assertEqual([undoable(made), undone(made) == made, is_possible(made)], [[], True, False])

    def test_invalid_steps(self):
        wrong = NO_TUPLES + [(), ("fold", 0), ("fold", 0, (0,), 0), ["fold", 0, (0,)], ("fold", 8, (0,)),
                             ("fold", -1, (0,)), ("fold", HUGE, (0,)), ("fold", 0, ()), ("fold", 0, [0]),
                             ("fold", 0, (-1,)), ("fold", 0, (0,) * 2001), ("fold", 0, None), ("back", 0, (0,)),
                             ("back", 0, None), ("back", 0, []), ("back", 8, ()), ("Fold", 0, (0,)), (0, "fold", (0,)),
                             ("inline", 0, (0,)), ("release", 0, ()), (None, 0, (0,)), ([], 0, ()), ("back", 0),
                             ("", 0, (0,)), (("fold",), 0, (0,))]
        wrong += [("fold", value, (0,)) for value in NO_INTEGERS] + [("fold", 0, (value,)) for value in NO_INTEGERS]
        wrong += [("back", value, ()) for value in NO_INTEGERS] + [("back", 1, value) for value in NO_TUPLES]
        for step in wrong:
            self.gives(InvalidStep, step, undo, MIXED, step)

    def test_not_undoable(self):
        for step in (("fold", 0, (0,)), ("fold", 0, (1,)), ("fold", 7, (0,)), ("fold", 0, (0,) * 2000), ("back", 0, ()),
                     ("back", 1, ()), ("back", 7, ()), ("back", 3, ()), ("fold", 1, (HUGE,)), ("fold", 3, (0, 5))):
            error = self.raises(NotUndoable, {"step": step}, undo, MIXED, step)
            self.assertIs(error.step, step)
        made = start(PROGRAM, VERSIONS)
        self.raises(NotUndoable, {"step": ("back", 1, ())}, undo, made, ("back", 1, ()))

    def test_any_order_ends_at_the_same(self):
        source = random.Random(125)
        for program, versions, state in naive_releases.samples(1251, 200):
            made = naive_releases.releases_of(program, versions, state)
            ends = []
            for _ in range(3):
                left, count = made, 0
                while undoable(left):
                    left = undo(left, source.choice(undoable(left)))
                    count += 1
                self.assertLessEqual(count, sum(map(len, made.inlined)) + sum(made.now))
                ends.append(left)
            self.assertEqual(ends, [undone(made)] * 3)

    def test_kinds_of_arguments(self):
        made = release(start(PROGRAM, VERSIONS), 1)
        self.assertEqual(undoable(releases=made), [("back", 1, ())])
        self.assertEqual(undo(releases=made, step=("back", 1, ())), start(PROGRAM, VERSIONS))
        self.assertEqual(undone(releases=made), start(PROGRAM, VERSIONS))
        self.assertIs(is_possible(releases=made), True)
        undoable(made).clear()
        self.assertEqual([undoable(made), made.now], [[("back", 1, ())], (0, 1, 0)])


class Histories(Case):
    def check(self, program, versions, made, right):
        self.assertIs(is_possible(made), right)
        left = undone(made)
        self.assertEqual(left == start(program, versions), right)
        if right:
            deeds = history(made)
            self.assertIs(type(deeds), list)
            self.assertEqual(replay(program, versions, deeds), made)
            self.assertEqual(replay(program, tuple(versions), tuple(deeds)), made)
            self.assertEqual(history(Releases(program, made.versions, made.now, made.inlined)), deeds)
        else:
            self.raises(StuckAt, {"stuck": left}, history, made)

    def test_behind_deeds(self):
        source, longest = random.Random(1252), 0
        for _ in range(250):
            program = naive.random_program(source, 4, 3)
            versions = naive_releases.random_versions(source, program.calls)
            deeds, state = naive_releases.walked(source, program.calls, versions, source.randint(0, 12))
            made = naive_releases.releases_of(program, versions, state)
            self.assertEqual(replay(program, versions, deeds), made)
            self.check(program, versions, made, True)
            longest = max(longest, len(deeds))
        self.assertEqual(longest, 12)

    def test_possible_exactly_if_deeds_make_them(self):
        source, told = random.Random(1253), []
        for calls in ([[1], [0]], [[1, 1], [0]], [[0, 1], [0]], [[1], [2], [0]], [[1, 2], [2], []]):
            program = Program(calls)
            for _ in range(6):
                versions = [row[:2] for row in naive_releases.random_versions(source, calls)]
                made = naive_releases.reachable(calls, versions, 3)
                states = [naive_releases.random_state(source, calls, versions, 3) for _ in range(60)]
                for state in states + list(made.values())[:40]:
                    right = naive_releases.key(state) in made
                    told.append(right)
                    self.check(program, versions, naive_releases.releases_of(program, versions, state), right)
        self.assertGreater(min(told.count(True), told.count(False)), 200)

    def test_one_version_of_all_calls(self):
        told = []
        for program, sets in mixed(1254, 200, 3):
            rows = [[(path, 0) for path in paths] for paths in sets]
            if sum(map(len, rows)) > 60:
                continue
            versions = naive_releases.whole(program)
            made = Releases(program, versions, [0] * len(program), rows)
            told.append(is_reachable(Bodies(program, [list(paths) for paths in sets])))
            self.check(program, versions, made, told[-1])
        self.assertGreater(min(told.count(True), told.count(False)), 40)

    def test_large_releases(self):
        program = Program([[1, 1], [0]])
        versions = [[(0, 1)] * 4, [(0,)] * 4]
        made, source, deeds = start(program, versions), random.Random(1255), 0
        while deeds < 300:
            state = naive_releases.state_of(made)
            ways = [deed for deed, behind in naive_releases.deeds(program.calls, versions, state)
                    if sum(map(len, behind[1])) <= 200]
            if not ways:
                break
            kind, function, path = source.choice(ways)
            made = inline_release(made, function, path) if kind == "inline" else release(made, function)
            deeds += 1
        self.assertGreater(sum(map(len, made.inlined)), 100)
        self.check(program, versions, made, True)

    def test_replay_errors(self):
        for versions in WRONG_VERSIONS:
            self.gives(InvalidVersions, versions, replay, PROGRAM, versions, None)
        wrong = NO_LISTS + [[()], [("inline", 0)], [["inline", 0, (0,)]], [("inline", 0, ())], [("inline", 0, [0])],
                            [("release", 0, (0,))], [("release", 8, ())], [("release", 0, None)], [("fold", 0, (0,))],
                            [("back", 0, ())], [("inline", -1, (0,))], [("inline", 0, (-1,))], [("inline", 0, (0,) * 2001)],
                            [("release", 1, ()), None], [([], 0, ())], [("release", 1, ())] * 401]
        wrong += [[("inline", value, (0,))] for value in NO_INTEGERS] + [[value] for value in NO_TUPLES]
        wrong += [[("inline", 0, (value,))] for value in NO_INTEGERS]
        wrong += [[("release", value, ())] for value in NO_INTEGERS]
        for deeds in wrong:
            self.gives(InvalidDeeds, deeds, replay, PROGRAM, VERSIONS, deeds)

    def test_stopped(self):
        first = ("release", 1, ())
        ahead = release(start(PROGRAM, VERSIONS), 1)
        for deed in (("release", 7, ()), ("release", 0, ()), ("inline", 3, (0,)), ("inline", 0, (1,)),
                     ("inline", 0, (0, 0)), ("inline", 0, (0,) * 2000), ("inline", 2, (0,))):
            error = self.raises(Stopped, {"at": 1, "reached": ahead}, replay, PROGRAM, VERSIONS, [first, deed, first])
            self.assertIs(type(error.reached), Releases)
            self.raises(Stopped, {"at": 0, "reached": start(PROGRAM, VERSIONS)}, replay, PROGRAM, VERSIONS, [deed])
        held = [first, ("inline", 1, (0,)), first]
        reached = inline_release(ahead, 1, (0,))
        self.raises(Stopped, {"at": 2, "reached": reached}, replay, PROGRAM, VERSIONS, held)
        loop = Program([[0]])
        self.raises(Stopped, {"at": 0, "reached": start(loop, [[(0,)]])}, replay, loop, [[(0,)]], [("inline", 0, (0,))])

    def test_many_deeds(self):
        self.raises(Stopped, {"at": 2, "reached": release(release(start(PROGRAM, VERSIONS), 1), 1)},
                    replay, PROGRAM, VERSIONS, [("release", 1, ())] * 400)
        self.assertEqual(replay(PROGRAM, VERSIONS, []), start(PROGRAM, VERSIONS))

    def test_too_many_paths(self):
        program = Program([[1, 1], [0, 0]])
        versions = naive_releases.whole(program)
        made, deeds = start(program, versions), []
        while True:
            function = len(deeds) & 1
            path = next(path for path in open_release(made, function) if len(path) % 2)
            deeds.append(("inline", function, path))
            if sum(map(len, made.inlined)) + 1 + len(made.inlined[1 - function]) > 200:
                break
            made = inline_release(made, function, path)
        self.raises(Stopped, {"at": len(deeds) - 1, "reached": made}, replay, program, versions, deeds)

    def test_kinds_of_arguments(self):
        made = replay(program=PROGRAM, versions=VERSIONS, deeds=[("release", 1, ())])
        self.assertEqual(history(releases=made), [("release", 1, ())])
        history(made).clear()
        self.assertEqual(history(made), [("release", 1, ())])
        self.assertEqual(history(start(PROGRAM, VERSIONS)), [])
