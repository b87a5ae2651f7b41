import random

from ringstays.bodies import Bodies, open_paths
from ringstays.errors import InlineError, InvalidFunction, InvalidInlined, InvalidNow, InvalidVersions, LastVersion
from ringstays.errors import NotOpen, SelfCall, StillInlined, TooMany
from ringstays.programs import Program
from ringstays.releases import Releases, inline_release, open_release, release, start
from ringstays.steps import inline_call
from tests import naive, naive_releases
from tests.cases import HUGE, NO_INTEGERS, NO_LISTS, NO_TUPLES, Case

PROGRAM = Program([[1], [0, 2], []])
VERSIONS = [[(0,)], [(0,), (0, 1), (1,)], [()]]
LOOP = Program([[0, 0]])
WRONG_VERSIONS = NO_LISTS + [[], VERSIONS[:2], VERSIONS + [[()]], [[], VERSIONS[1], VERSIONS[2]], [(0,), *VERSIONS[1:]],
                             [[(0,)] * 5, *VERSIONS[1:]], [[[0]], *VERSIONS[1:]], [[(1,)], *VERSIONS[1:]],
                             [[(0,)], [(1, 0)], [()]], [[(0,)], [(0, 0)], [()]], [[(0,)], [(0,)], [(0,)]],
                             [[(-1,)], *VERSIONS[1:]], [[(HUGE,)], *VERSIONS[1:]], [{}, *VERSIONS[1:]]]
WRONG_VERSIONS += [[[(value,)], *VERSIONS[1:]] for value in NO_INTEGERS]
WRONG_VERSIONS += [[value, *VERSIONS[1:]] for value in NO_LISTS] + [[[value], *VERSIONS[1:]] for value in NO_TUPLES]
WRONG_NOW = NO_LISTS + [[], [0, 0], [0, 0, 0, 0], [0, 3, 0], [0, -1, 0], [1, 0, 0], [0, HUGE, 0], [0, [0], 0]]
WRONG_NOW += [[0, value, 0] for value in NO_INTEGERS]


class Examples(Case):
    def test_examples(self):
        one = inline_release(release(start(PROGRAM, VERSIONS), 1), 0, (0,))
        self.assertEqual([one.now, one.inlined, open_release(one, 0)],
                         [(0, 1, 0), ((((0,), 1),), (), ()), [(0, 0), (0, 1)]])
        self.raises(StillInlined, {"call": 0}, release, inline_release(one, 1, (0,)), 1)


class Making(Case):
    def test_attributes(self):
        made = Releases(PROGRAM, VERSIONS, [0, 1, 0], [[((0, 1), 0), ((0,), 1)], (), []])
        self.assertEqual(made.program, PROGRAM)
        self.assertEqual(made.versions, (((0,),), ((0,), (0, 1), (1,)), ((),)))
        self.assertEqual(made.now, (0, 1, 0))
        self.assertEqual(made.inlined, ((((0,), 1), ((0, 1), 0)), (), ()))
        for one in (made.versions, made.versions[1], made.versions[1][0], made.now, made.inlined, made.inlined[0]):
            self.assertIs(type(one), tuple)
        same = Releases(program=Program(PROGRAM.calls), versions=tuple(map(tuple, VERSIONS)), now=(0, 1, 0),
                        inlined=(made.inlined[0], [], []))
        self.assertEqual(made, same)
        self.assertIs(made == same, True)
        self.assertEqual(Releases(PROGRAM, VERSIONS, [0, 0, 0]), Releases(PROGRAM, VERSIONS, [0, 0, 0], [[], [], []]))

    def test_equality(self):
        made = Releases(PROGRAM, VERSIONS, [0, 1, 0], [[((0,), 1)], [], []])
        others = [Releases(Program([[1], [0, 2], [0]]), VERSIONS, [0, 1, 0], [[((0,), 1)], [], []]),
                  Releases(PROGRAM, VERSIONS[:2] + [[(), ()]], [0, 1, 0], [[((0,), 1)], [], []]),
                  Releases(PROGRAM, VERSIONS, [0, 2, 0], [[((0,), 1)], [], []]),
                  Releases(PROGRAM, VERSIONS, [0, 1, 0], [[((0,), 0)], [], []]),
                  Releases(PROGRAM, VERSIONS, [0, 1, 0])]
        for other in others + [None, 0, PROGRAM, Bodies(PROGRAM)]:
            self.assertFalse(made == other)
            self.assertTrue(made != other)

    def test_wrong_versions(self):
        for versions in WRONG_VERSIONS:
            self.gives(InvalidVersions, versions, Releases, PROGRAM, versions, None, 0)
            self.gives(InvalidVersions, versions, start, PROGRAM, versions)
        start(PROGRAM, [[(0,), (0,), (), (0,)], [()], [(), (), (), ()]])

    def test_wrong_now(self):
        for now in WRONG_NOW:
            self.gives(InvalidNow, now, Releases, PROGRAM, VERSIONS, now, 0)
            self.gives(InvalidNow, now, Releases, PROGRAM, VERSIONS, now)

    def test_wrong_inlined(self):
        good = [((0,), 1), ((0, 1), 0)]
        wrong = [value for value in NO_LISTS if value is not None]
        wrong += [[], [[], []], [[], [], [], []], [[((0, 1), 0)], [], []], [[((), 0)], [], []], [[((0,), 3)], [], []],
                  [[((0,), -1)], [], []], [[((0,), HUGE)], [], []], [[((0,), 1), ((0,), 0)], [], []],
                  [[((0,), 1), ((0,), 1)], [], []], [[[(0,), 1]], [], []], [[([0], 1)], [], []], [[((0,),)], [], []],
                  [[((0,), 1, 0)], [], []], [[((1,), 0)], [], []], [[((0,), 0), ((0, 1), 0)], [], []],
                  [[((0,), 2), ((0, 0), 0)], [], []], [[], [((1,), 0)], []], [good, good, []], [[], [], [((0,), 0)]],
                  [[((0,), 1), ((0, 1, 0), 0), ((0, 1), 0)], [], []], [[((0,) * 2001, 0)], [], []]]
        wrong += [[[((0,), value)], [], []] for value in NO_INTEGERS]
        wrong += [[[((value,), 1)], [], []] for value in NO_INTEGERS] + [[[value], [], []] for value in NO_TUPLES]
        wrong += [[[(value, 1)], [], []] for value in NO_TUPLES] + [[good, value, []] for value in NO_LISTS]
        for inlined in wrong:
            self.gives(InvalidInlined, inlined, Releases, PROGRAM, VERSIONS, [0, 0, 0], inlined)
        Releases(PROGRAM, VERSIONS, [0, 0, 0], [good, [], []])
        # What is inlined first is of the present version of its function.
        Releases(PROGRAM, VERSIONS, [0, 1, 0], [[], [((0,), 0), ((1,), 0)], []])
        for now in ([0, 0, 0], [0, 2, 0]):
            given = [[], [((0,), 0), ((1,), 0)], []]
            self.gives(InvalidInlined, given, Releases, PROGRAM, VERSIONS, now, given)

    def test_limit(self):
        versions = [[(0, 1)]]
        full = [[(path, 0) for path in naive.chain(200)]]
        self.assertEqual(len(Releases(LOOP, versions, [0], full).inlined[0]), 200)
        self.raises(TooMany, {"count": 201}, Releases, LOOP, versions, [0], [full[0] + [((1,), 0)]])
        self.raises(TooMany, {"count": 300}, Releases, LOOP, versions, [0], [[(p, 0) for p in naive.chain(300)]])
        # What is wrong is so however much it is.
        given = [full[0] + [((1,), 1)]]
        self.gives(InvalidInlined, given, Releases, LOOP, versions, [0], given)
        pair, rows = Program([[1], [0]]), [[(path, 0) for path in naive.chain(100)] for _ in range(2)]
        self.assertEqual(len(Releases(pair, [[(0,)], [(0,)]], [0, 0], rows).inlined[1]), 100)
        rows[0] = [(path, 0) for path in naive.chain(101)]
        self.raises(TooMany, {"count": 201}, Releases, pair, [[(0,)], [(0,)]], [0, 0], rows)

    def test_lists_are_not_kept(self):
        versions, now, rows = [list(row) for row in VERSIONS], [0, 1, 0], [[((0,), 1)], [], []]
        made = Releases(PROGRAM, versions, now, rows)
        versions[1].clear()
        now[1] = 0
        rows[0].clear()
        self.assertEqual(made, Releases(PROGRAM, VERSIONS, [0, 1, 0], [[((0,), 1)], [], []]))

    def test_start(self):
        made = start(program=PROGRAM, versions=tuple(VERSIONS))
        self.assertEqual(made, Releases(PROGRAM, VERSIONS, [0, 0, 0]))
        self.assertIs(type(made), Releases)

    def test_all_right_states(self):
        for program, versions, state in naive_releases.samples(121, 300):
            made = naive_releases.releases_of(program, versions, state)
            self.assertEqual([naive_releases.state_of(made)], [(list(state[0]), state[1])])


class Steps(Case):
    def test_wrong_functions(self):
        releases = start(PROGRAM, VERSIONS)
        for function in NO_INTEGERS + [-1, 3, HUGE]:
            self.gives(InvalidFunction, function, open_release, releases, function)
            self.gives(InvalidFunction, function, release, releases, function)
            self.gives(InvalidFunction, function, inline_release, releases, function, None)

    def test_open_by_the_words(self):
        for program, versions, state in naive_releases.samples(122, 400):
            made = naive_releases.releases_of(program, versions, state)
            for function in range(len(program)):
                found = open_release(made, function)
                self.assertEqual(found, naive_releases.open_paths(program.calls, versions, state, function))
                self.check_steps(program, versions, state, made, function, found)

    def check_steps(self, program, versions, state, made, function, found):
        for path in found:
            if naive.end(program.calls, function, path) == function:
                self.raises(SelfCall, {"function": function}, inline_release, made, function, path)
                continue
            behind = naive_releases.inline(program.calls, state, function, path)
            if sum(map(len, behind[1])) <= 200:
                right = naive_releases.releases_of(program, versions, behind)
                self.assertEqual(inline_release(made, function, path), right)

    def test_releases_by_the_words(self):
        told = set()
        for program, versions, state in naive_releases.samples(123, 400):
            made, ways = naive_releases.releases_of(program, versions, state), dict()
            for deed, behind in naive_releases.deeds(program.calls, versions, state):
                ways[deed] = behind
            for function in range(len(program)):
                if ("release", function, ()) in ways:
                    right = naive_releases.releases_of(program, versions, ways["release", function, ()])
                    self.assertEqual(release(made, function), right)
                    told.add(None)
                elif state[0][function] + 1 == len(versions[function]):
                    self.raises(LastVersion, {"function": function}, release, made, function)
                    told.add(LastVersion)
                else:
                    calls = versions[function][state[0][function] + 1]
                    least = min(path[0] for path in state[1][function] if len(path) == 1 and path[0] not in calls)
                    self.raises(StillInlined, {"call": least}, release, made, function)
                    told.add(StillInlined)
        self.assertEqual(told, {None, LastVersion, StillInlined})

    def test_not_open(self):
        releases = Releases(PROGRAM, VERSIONS, [0, 1, 0], [[((0,), 0)], [], []])
        for path in NO_TUPLES + [(), (0,), (0, 1), (1,), (0, 0, 0), (-1,), (HUGE,), [0], (0,) * 2001]:
            error = self.raises(NotOpen, {"path": path}, inline_release, releases, 0, path)
            self.assertIs(error.path, path)
        for value in NO_INTEGERS:
            self.raises(NotOpen, {"path": (value,)}, inline_release, releases, 1, (value,))
        self.assertEqual([open_release(releases, function) for function in range(3)], [[(0, 0)], [(0,), (1,)], []])

    def test_self_calls(self):
        made = Releases(LOOP, [[(1,)]], [0], [[((1,), 0)]])
        self.raises(SelfCall, {"function": 0}, inline_release, made, 0, (1, 1))
        self.raises(NotOpen, {"path": (0,)}, inline_release, made, 0, (0,))
        # A self call, too, that would be one path too many.
        full = Releases(LOOP, [[(0, 1)]], [0], [[(path, 0) for path in naive.chain(200)]])
        self.raises(SelfCall, {"function": 0}, inline_release, full, 0, (1,))

    def test_too_many(self):
        program = Program([[1, 0], [0, 1]])
        versions = [[(0, 1)], [(0, 1)]]
        rows = [[], [((1,) * count, 0) for count in range(1, 100)]]
        made = inline_release(Releases(program, versions, [0, 0], rows), 0, (0,))
        self.assertEqual(sum(map(len, made.inlined)), 199)
        rows[1] += [((1,) * 100, 0)]
        more = Releases(program, versions, [0, 0], rows)
        self.raises(TooMany, {"count": 201}, inline_release, more, 0, (0,))
        self.raises(TooMany, {"count": 299}, inline_release, made, 0, (0,) + (1,) * 100)
        self.assertEqual(more, Releases(program, versions, [0, 0], rows))

    def test_copies_keep_their_versions(self):
        one = inline_release(inline_release(start(PROGRAM, VERSIONS), 1, (0,)), 0, (0,))
        self.assertEqual(one.inlined, ((((0,), 0), ((0, 0), 0)), (((0,), 0),), ()))
        two = release(one, 1)
        self.assertEqual([two.inlined, two.now], [one.inlined, (0, 1, 0)])
        self.assertEqual([open_release(two, 0), open_release(two, 1)], [[(0, 0, 0)], [(0, 0), (1,)]])
        three = inline_release(two, 0, (0, 0, 0))
        self.assertEqual(three.inlined[0], (((0,), 0), ((0, 0), 0), ((0, 0, 0), 1), ((0, 0, 0, 0), 0)))

    def test_one_version_of_all_calls_is_as_before(self):
        for program, _, bodies in naive.samples(1221, 80, 4):
            rows = [[(path, 0) for path in row] for row in bodies.inlined]
            made = Releases(program, naive_releases.whole(program), [0] * len(program), rows)
            for function in range(len(program)):
                self.assertEqual(open_release(made, function), open_paths(bodies, function))
                for path in open_paths(bodies, function):
                    try:
                        behind = inline_call(bodies, function, path)
                        found = inline_release(made, function, path)
                    except (SelfCall, TooMany):
                        continue
                    self.assertEqual([[path for path, _ in row] for row in found.inlined],
                                     [list(row) for row in behind.inlined])

    def test_kinds_of_arguments(self):
        made = start(PROGRAM, VERSIONS)
        self.assertEqual(open_release(releases=made, function=0), [(0,)])
        self.assertEqual(inline_release(releases=made, function=0, path=(0,)).inlined[0], (((0,), 0),))
        self.assertEqual(release(releases=made, function=1).now, (0, 1, 0))
        open_release(made, 0).clear()
        self.assertEqual(open_release(made, 0), [(0,)])
        self.assertEqual(made, start(PROGRAM, VERSIONS))
        with self.assertRaises(InlineError):
            release(made, 0)
