import random
from itertools import product

from ringstays.errors import (InvalidFunction, InvalidIndex, InvalidMost, InvalidPasses, InvalidPath, NotInlinedAt,
                              TooMany)
from ringstays.bodies import is_inlined, open_paths
from ringstays.passes import run_passes
from ringstays.programs import complete, names, path_of
from ringstays.walks import body_on, is_inlined_at, is_open_at, line, moments, owner, standing
from tests import naive
from tests.cases import HUGE, NO_INTEGERS, NO_LISTS, NO_TUPLES, Case

WRONG_LISTS = NO_LISTS + [[("now", 0, 0)], [("now", 0, 1), ["now", 0, 1]], [("now", 0, 1)] * 61, [None], ("now", 0, 1)]
WRONG_PATHS = NO_TUPLES + [(8,), (-1,), (0, HUGE), (0,) * 2001, [0, 1], ((0,),)] + [(value,) for value in NO_INTEGERS]
WRONG_FUNCTIONS = NO_INTEGERS + [8, -1, HUGE]


def random_walk(source, passes, function, length):
    """A path of which mostly all calls but the last one are inlined."""
    path = ()
    for _ in range(length):
        ways = [path + (callee,) for callee in range(8) if is_inlined_at(passes, function, path + (callee,))]
        if not ways:
            break
        path = source.choice(ways)
    return path + (source.randrange(8),) if source.random() < 0.5 else path


class Examples(Case):
    def test_examples(self):
        passes = [("first", 0, 0), ("now", 1, 0)]
        self.assertEqual([moments(passes, 1, (0, 0)), moments(passes, 1, (0, 0, 0)), moments(passes, 1, (2,))],
                         [(1, 0), (1, 0), ()])
        self.assertEqual([owner(passes, 1, (0, 0), 0), owner(passes, 1, (0, 0), 1), owner(passes, 1, (0, 0), 2)],
                         [None, 0, 1])
        self.assertEqual([is_open_at(passes, 1, (0, 0, 0)), is_open_at(passes, 1, (2, 0)), is_open_at(passes, 1, ())],
                         [True, False, False])
        self.assertEqual([standing(passes, 1, 2), standing(passes, 1, 1), body_on(passes, 1, 2)],
                         [(("now", 0, 1),), (), ((0,), (0, 0))])
        self.assertEqual([line(passes, 1, 0), line(passes, 0, 0), line(passes, 0, 1)], [2, 1, 0])


class Errors(Case):
    def asked(self):
        """Each function of the stage as one of passes, a function and something else that is right."""
        return [lambda passes, function, path=(): moments(passes, function, path),
                lambda passes, function, path=(): is_inlined_at(passes, function, path),
                lambda passes, function, path=(): is_open_at(passes, function, path),
                lambda passes, function, path=(): owner(passes, function, path, 0)]

    def test_wrong_passes_come_first(self):
        for given in WRONG_LISTS:
            for ask in self.asked():
                self.gives(InvalidPasses, given, ask, given, 0)
                self.gives(InvalidPasses, given, ask, given, 8, None)
            self.gives(InvalidPasses, given, standing, given, None, None)
            self.gives(InvalidPasses, given, body_on, given, None, None)
            self.gives(InvalidPasses, given, line, given, None, None)

    def test_wrong_functions_come_next(self):
        for given in WRONG_FUNCTIONS:
            for ask in self.asked():
                self.gives(InvalidFunction, given, ask, [], given, ())
                self.gives(InvalidFunction, given, ask, [], given, [0])
            self.gives(InvalidFunction, given, standing, [], given, 9)
            self.gives(InvalidFunction, given, body_on, [], given, 0)
            self.gives(InvalidFunction, given, line, [], given, 9)
            self.gives(InvalidFunction, given, line, [], 0, given)

    def test_wrong_paths_come_next(self):
        for given in WRONG_PATHS:
            for ask in self.asked():
                self.gives(InvalidPath, given, ask, [("now", 0, 1)], 0, given)
            self.gives(InvalidPath, given, owner, [("now", 0, 1)], 0, given, None)

    def test_owner(self):
        passes = [("now", 0, 1)]
        for index in NO_INTEGERS + [0, 2, -1, HUGE]:
            self.gives_path(NotInlinedAt, (1, 1), owner, passes, 0, (1, 1), index)
            self.gives_path(NotInlinedAt, (2,), owner, passes, 0, (2,), index)
        for index in NO_INTEGERS + [2, -1, HUGE]:
            self.gives(InvalidIndex, index, owner, passes, 0, (1,), index)
            self.gives(InvalidIndex, index, owner, passes, 0, (), index)
            self.gives(InvalidIndex, index, standing, passes, 0, index)
        self.gives(InvalidIndex, 1, owner, [], 0, (), 1)
        self.gives(InvalidIndex, 1, standing, (), 7, 1)

    def gives_path(self, error, path, function, *arguments):
        self.assertIs(self.raises(error, {"path": path}, function, *arguments).path, path)

    def test_most(self):
        for most in NO_INTEGERS + [0, -1, 401, HUGE]:
            self.gives(InvalidMost, most, body_on, [("now", 0, 1), ("now", 0, 2)], 0, most)


class Walks(Case):
    def test_the_empty_path(self):
        for passes in ([], [("now", 0, 1)]):
            self.assertEqual(moments(passes, 3, ()), ())
            self.assertIs(is_inlined_at(passes, 3, ()), True)
            self.assertIs(is_open_at(passes, 3, ()), False)
            for index in range(len(passes) + 1):
                self.assertEqual(owner(passes, 3, (), index), 3)

    def test_by_name(self):
        passes = (("first", 0, 0), ("now", 1, 0))
        self.assertEqual(moments(passes=passes, function=1, path=(0,)), (1,))
        self.assertIs(is_inlined_at(passes=passes, function=1, path=(0,)), True)
        self.assertIs(is_open_at(passes=passes, function=1, path=(1,)), True)
        self.assertEqual(owner(passes=passes, function=1, path=(0,), index=1), 0)
        self.assertEqual(standing(passes=passes, function=1, index=2), (("now", 0, 1),))
        self.assertEqual(body_on(passes=passes, function=1, most=3), ((0,), (0, 0)))
        self.assertEqual(line(passes=passes, function=1, callee=0), 2)

    def test_owners_of_now_and_first(self):
        passes = [("first", 1, 2), ("now", 0, 1), ("first", 0, 3)]
        self.assertEqual([owner(passes, 0, (1,), index) for index in range(4)], [1, 1, 0, 0])
        self.assertEqual([owner(passes, 0, (3,), index) for index in range(4)], [None, None, None, 0])
        self.assertEqual([owner(passes, 0, (1, 2), index) for index in range(4)], [None, 1, 0, 0])
        self.assertEqual(moments(passes, 0, (1, 2, 3)), (1, 0, 2))

    def test_long_lists_and_paths(self):
        passes = [("first", 0, 0)] * 60
        self.assertEqual(moments(passes, 0, (0,) * 60), tuple(range(60)))
        self.assertEqual(moments(passes, 0, (0,) * 2000), tuple(range(60)))
        self.assertIs(is_open_at(passes, 0, (0,) * 61), True)
        self.assertIs(is_open_at(passes, 0, (0,) * 62), False)
        # The lines of 220 calls of 0 in 1 stand in 2 thirty times behind each other.
        passes = [("first", 0, 0)] * 10 + [("now", 1, 0)] * 20 + [("now", 2, 1)] * 30
        path = (((1,) + (0,) * 220) * 30)[:2000]
        self.assertIs(is_inlined_at(passes, 2, path), True)
        self.assertIs(is_open_at(passes, 2, path), False)
        self.assertEqual(len(moments(passes, 2, path)), 2000)
        self.assertEqual(moments(passes, 2, path), naive.walk(passes, 2, path)[0])
        self.assertEqual([owner(passes, 2, path, index) for index in (39, 40, 60)], [1, 2, 2])
        self.assertIs(is_open_at(passes, 2, path[:-1] + (3,)), True)
        self.assertIs(is_open_at(passes, 2, path[:-2] + (3, 1)), False)

    def test_as_told(self):
        source = random.Random(51)
        for count in range(300):
            passes = naive.random_passes(source, source.randint(0, 12), source.randint(1, 4))
            function = source.randrange(4)
            path = random_walk(source, passes, function, source.randint(0, 8))
            taken, told = naive.walk(passes, function, path)
            self.assertEqual(moments(passes, function, path), taken)
            self.assertIs(is_inlined_at(passes, function, path), len(taken) == len(path))
            self.assertIs(is_open_at(passes, function, path), len(taken) == len(path) - 1)
            if len(taken) == len(path):
                for index in range(len(passes) + 1):
                    self.assertEqual(owner(passes, function, path, index), told(len(path), index))
                self.assertEqual(owner(passes, function, path, len(passes)), function)
            else:
                self.raises(NotInlinedAt, {"path": path}, owner, passes, function, path, 0)

    def test_what_passes_make(self):
        source = random.Random(52)
        for _ in range(100):
            program = naive.random_program(source)
            passes = naive.random_passes(source, source.randint(0, 5), 5)
            try:
                made = run_passes(program, passes)
            except TooMany:
                continue
            for function in range(len(program)):
                for path in made.inlined[function]:
                    self.assertIs(is_inlined_at(passes, function, names(program, function, path)), True)
                for path in open_paths(made, function):
                    self.assertIs(is_open_at(passes, function, names(program, function, path)), True)

    def test_what_is_inlined_by_the_walk_is_made(self):
        source = random.Random(53)
        for _ in range(60):
            passes = naive.random_passes(source, source.randint(1, 5), 3)
            try:
                made = run_passes(complete(3), passes)
            except TooMany:
                continue
            for length in range(4):
                for path in product(range(3), repeat=length):
                    for function in range(3):
                        self.assertIs(is_inlined_at(passes, function, path), is_inlined(made, function, path))


class Standing(Case):
    def test_standing(self):
        passes = [("now", 1, 0), ("first", 1, 1), ("now", 0, 1), ("first", 1, 3)]
        told = (("now", 0, 0), ("first", 1, 1), ("first", 3, 3))
        self.assertEqual([standing(passes, 1, index) for index in range(5)],
                         [(), told[:1], told[:2], told[:2], told])
        self.assertEqual(standing(tuple(passes), 0, 4), (("now", 1, 2),))
        self.assertEqual(standing(passes, 7, 4), ())
        self.assertEqual(standing([], 7, 0), ())
        self.assertEqual(len(standing([("now", 0, 1)] * 60, 0, 60)), 60)


class WholeBodies(Case):
    def test_limits(self):
        passes = [("first", 0, callee) for callee in range(1, 6)]
        body = body_on(passes, 0, 400)
        self.assertEqual(len(body), 31)
        self.assertEqual(body_on(passes, 0, 31), body)
        for most in (1, 2, 30):
            self.raises(TooMany, {"count": most + 1}, body_on, passes, 0, most)
        self.assertEqual(body_on(passes, 1, 1), ())
        self.assertEqual(body_on([], 0, 1), ())
        self.assertEqual(body_on([("now", 0, 1)], 0, 1), ((1,),))
        self.raises(TooMany, {"count": 2}, body_on, [("now", 0, 1)] * 2, 0, 1)
        # 400 paths in all: 20 calls of 0 behind each other in each of 20 lines.
        passes = [("first", 0, 0)] * 19 + [("now", 1, 0)] * 20
        self.assertEqual(body_on(passes, 1, 400), tuple(naive.chain(400)))
        passes = [("first", 0, 0)] + passes[1:] + [("first", 1, 0)]
        self.raises(TooMany, {"count": 401}, body_on, passes, 1, 400)
        self.raises(TooMany, {"count": 401}, body_on, [("now", at & 1, 1 - (at & 1)) for at in range(60)], 0, 400)

    def test_as_told(self):
        source = random.Random(55)
        for _ in range(150):
            passes = naive.random_passes(source, source.randint(0, 6), source.randint(1, 8))
            function = source.randrange(8)
            program = complete(8)
            try:
                made = run_passes(program, passes).inlined[function]
            except TooMany:
                continue
            if len(made) > 400:
                self.raises(TooMany, {"count": 401}, body_on, passes, function, 400)
            else:
                self.assertEqual(body_on(passes, function, max(1, len(made))), made)
                if len(made) > 1:
                    self.raises(TooMany, {"count": len(made)}, body_on, passes, function, len(made) - 1)


class Lines(Case):
    def test_lines(self):
        passes = [("first", 2, 2), ("first", 1, 2), ("first", 2, 2), ("now", 1, 2), ("now", 1, 0), ("first", 2, 2)]
        self.assertEqual([line(passes, 1, 2), line(passes, 1, 0), line(passes, 2, 2), line(passes, 0, 2)], [4, 1, 3, 0])
        self.assertEqual(line((), 7, 7), 0)

    def test_as_told(self):
        source = random.Random(56)
        lists = [naive.random_passes(source, source.randint(0, 14), source.randint(1, 3)) for _ in range(60)]
        lists.append([("first", 0, 0)] * 30 + [("now", 1, 0)] * 30)
        for passes in lists:
            for function in range(3):
                for callee in range(3):
                    length = line(passes, function, callee)
                    self.assertEqual(len(moments(passes, function, (callee,) * 2000)), length)
                    self.assertIs(is_inlined_at(passes, function, (callee,) * length), True)
                    self.assertIs(is_open_at(passes, function, (callee,) * (length + 1)), True)
        self.assertEqual(line(lists[-1], 1, 0), 930)

    def test_lines_on_programs(self):
        passes = [("first", 0, 0), ("now", 1, 0), ("now", 1, 0)]
        made = run_passes(complete(2), passes)
        self.assertEqual(path_of(complete(2), 1, (0,) * 4), (0,) * 4)
        self.assertIs(is_inlined(made, 1, (0,) * line(passes, 1, 0)), True)
        self.assertIs(is_inlined(made, 1, (0,) * (line(passes, 1, 0) + 1)), False)
