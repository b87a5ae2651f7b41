"""Slow and plain second writings of what the document says, and samples to compare on.

Bodies are here a list with a set of paths for each function; steps are done path by path.
"""

import random

from ringstays.bodies import Bodies
from ringstays.programs import Program

MODES = ("now", "first")


def end(calls, function, path):
    for call in path:
        function = calls[function][call]
    return function


def sets_of(bodies):
    return [set(row) for row in bodies.inlined]


def bodies_of(program, sets):
    return Bodies(program, [list(paths) for paths in sets])


def open_paths(calls, function, paths):
    places = [()] + list(paths)
    found = [place + (call,) for place in places for call in range(len(calls[end(calls, function, place)]))]
    return sorted(path for path in found if path not in paths)


def copy(paths, path):
    return {other[len(path):] for other in paths if len(other) > len(path) and other[:len(path)] == path}


def inline(calls, sets, function, path, mode):
    part = set(sets[end(calls, function, path)]) if mode == "now" else set()
    sets[function] |= {path} | {path + other for other in part}


def run_pass(calls, sets, one):
    mode, function, callee = one
    if max(function, callee) >= len(calls):
        return
    for path in open_paths(calls, function, sets[function]):
        if end(calls, function, path) == callee:
            inline(calls, sets, function, path, mode)


def text(calls, sets):
    return "; ".join(
        f"{function}:" + "".join(" " + call_text(calls, sets[function], function, (call,))
                                 for call in range(len(calls[function])))
        for function in range(len(calls)))


def call_text(calls, paths, function, path):
    callee = end(calls, function, path)
    if path not in paths:
        return str(callee)
    inner = [" " + call_text(calls, paths, function, path + (call,)) for call in range(len(calls[callee]))]
    return f"[{callee}{''.join(inner)}]"


def random_program(source, most_functions=4, most_calls=3):
    count = source.randint(1, most_functions)
    return Program([[source.randrange(count) for _ in range(source.randint(0, most_calls))] for _ in range(count)])


def random_log(source, program, length, most=300):
    """A log of both modes, with the sets that it makes of the original bodies."""
    calls, sets, log = program.calls, [set() for _ in program.calls], []
    for _ in range(length):
        steps = [(function, path, mode)
                 for function in range(len(calls))
                 for path in open_paths(calls, function, sets[function])
                 for mode in MODES
                 if mode == "first" or end(calls, function, path) != function]
        if not steps or sum(map(len, sets)) > most:
            break
        step = source.choice(steps)
        log.append(step)
        inline(calls, sets, *step)
    return log, sets


def random_passes(source, length, functions=4, unroll=True):
    passes = []
    while len(passes) < length:
        one = (source.choice(MODES), source.randrange(functions), source.randrange(functions))
        if one[1] != one[2] or (unroll and one[0] == "first"):
            passes.append(one)
    return passes


def samples(seed, count, length=6):
    """Triples of a program, a log and the Bodies that it makes of the original ones."""
    source = random.Random(seed)
    found = []
    for _ in range(count):
        program = random_program(source)
        log, sets = random_log(source, program, source.randint(0, length))
        found.append((program, log, bodies_of(program, sets)))
    return found


def chain(length):
    """The paths of 1 to `length` calls that take the call 0 alone."""
    return [(0,) * count for count in range(1, length + 1)]
