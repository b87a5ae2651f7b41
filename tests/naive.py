"""Slow and plain second writings of what the document says, and samples to compare on.

Bodies are here a list with a set of paths for each function; steps are done path by path.
"""

import random

from ringstays.bodies import Bodies
from ringstays.programs import Program

MODES = ("now", "first")


def end(calls, function, path):
    for call in path:
        function = calls[function][call]
    return function


def sets_of(bodies):
    return [set(row) for row in bodies.inlined]


def bodies_of(program, sets):
    return Bodies(program, [list(paths) for paths in sets])


def open_paths(calls, function, paths):
    places = [()] + list(paths)
    found = [place + (call,) for place in places for call in range(len(calls[end(calls, function, place)]))]
    return sorted(path for path in found if path not in paths)


def copy(paths, path):
    return {other[len(path):] for other in paths if len(other) > len(path) and other[:len(path)] == path}


def inline(calls, sets, function, path, mode):
    part = set(sets[end(calls, function, path)]) if mode == "now" else set()
    sets[function] |= {path} | {path + other for other in part}


def run_pass(calls, sets, one):
    mode, function, callee = one
    if max(function, callee) >= len(calls):
        return
    for path in open_paths(calls, function, sets[function]):
        if end(calls, function, path) == callee:
            inline(calls, sets, function, path, mode)


def text(calls, sets):
    return "; ".join(
        f"{function}:" + "".join(" " + call_text(calls, sets[function], function, (call,))
                                 for call in range(len(calls[function])))
        for function in range(len(calls)))


def call_text(calls, paths, function, path):
    callee = end(calls, function, path)
    if path not in paths:
        return str(callee)
    inner = [" " + call_text(calls, paths, function, path + (call,)) for call in range(len(calls[callee]))]
    return f"[{callee}{''.join(inner)}]"


def random_program(source, most_functions=4, most_calls=3):
    count = source.randint(1, most_functions)
    return Program([[source.randrange(count) for _ in range(source.randint(0, most_calls))] for _ in range(count)])


def random_log(source, program, length, most=300, start=None):
    """A log of both modes, with the sets that it makes of the original bodies, or of others."""
    calls, log = program.calls, []
    sets = [set(paths) for paths in start or [()] * len(program)]
    for _ in range(length):
        steps = [(function, path, mode)
                 for function in range(len(calls))
                 for path in open_paths(calls, function, sets[function])
                 for mode in MODES
                 if mode == "first" or end(calls, function, path) != function]
        if not steps or sum(map(len, sets)) > most:
            break
        step = source.choice(steps)
        log.append(step)
        inline(calls, sets, *step)
    return log, sets


def random_passes(source, length, functions=4, unroll=True):
    passes = []
    while len(passes) < length:
        one = (source.choice(MODES), source.randrange(functions), source.randrange(functions))
        if one[1] != one[2] or (unroll and one[0] == "first"):
            passes.append(one)
    return passes


def samples(seed, count, length=6):
    """Triples of a program, a log and the Bodies that it makes of the original ones."""
    source = random.Random(seed)
    found = []
    for _ in range(count):
        program = random_program(source)
        log, sets = random_log(source, program, source.randint(0, length))
        found.append((program, log, bodies_of(program, sets)))
    return found


def chain(length):
    """The paths of 1 to `length` calls that take the call 0 alone."""
    return [(0,) * count for count in range(1, length + 1)]


def visit(calls, sets, function):
    found = [path for path in open_paths(calls, function, sets[function]) if end(calls, function, path) != function]
    for path in found:
        inline(calls, sets, function, path, "now")


def walk(passes, function, path):
    """The indices at which the calls are inlined, and a function (place, moment) that tells owners."""
    taken = []

    def owner(place, moment):
        for at in reversed(taken[:place]):
            if moment <= at:
                mode, _, callee = passes[at]
                return callee if mode == "now" else None
        return function

    for place, callee in enumerate(path):
        fit = [k for k in range(len(passes)) if passes[k][2] == callee and passes[k][1] == owner(place, k)]
        if not fit:
            break
        taken.append(fit[0])
    return tuple(taken), owner


def rows(passes):
    """The row of each function, of passes of any kind."""
    found = [[] for _ in range(8)]
    for at, (mode, function, callee) in enumerate(passes):
        ahead = sum(1 for one in passes[:at] if one[1] == callee)
        found[function].append((callee, ahead if mode == "now" else 0))
    return found


def plain_rows(passes):
    """Point [72], word by word."""
    old = rows(passes)

    def unrolled(callee, version):
        count = 0
        while count < version and old[callee][version - 1 - count][0] == callee:
            count += 1
        return count

    groups = []
    for row in old:
        groups.append([])
        for callee, version in row:
            count = unrolled(callee, version) if version else 0
            groups[-1].append([(callee, version - count)] + [(callee, 0)] * count)
    found = []
    for row in groups:
        found.append([])
        for (callee, kept), *more in row:
            found[-1] += [(callee, sum(map(len, groups[callee][:kept])))] + more
    return found


def do_touch(first, second):
    def all_of(one):
        return {one[1], one[2]} if one[0] == "now" else {one[1]}
    return first[1] in all_of(second) or second[1] in all_of(first)


def linked(passes):
    """All lists to which the list goes by a link."""
    passes, found = list(passes), []
    for at, (mode, function, callee) in enumerate(passes):
        if function != callee and all(one[1] != callee for one in passes[:at]):
            turned = "first" if mode == "now" else "now"
            found.append(passes[:at] + [(turned, function, callee)] + passes[at + 1:])
        if at and not do_touch(passes[at - 1], passes[at]):
            found.append(passes[:at - 1] + [passes[at], passes[at - 1]] + passes[at + 1:])
    return found


def unroll_linked(passes):
    """All lists to which the list goes by an unroll link."""
    passes, found = list(passes), linked(passes)
    for at, (mode, f, h) in enumerate(passes):
        if mode != "now":
            continue
        two = [("first", h, h), ("now", f, h)]
        three = [("now", f, h), ("first", f, h), ("first", h, h)]
        if at and passes[at - 1:at + 1] == two:
            found.append(passes[:at - 1] + three + passes[at + 1:])
        if passes[at:at + 3] == three:
            found.append(passes[:at] + two + passes[at + 3:])
    return found


def changed_a_bit(source, passes, functions, unroll):
    """The list with a pass or two taken out, put in, turned or moved."""
    passes = list(passes)
    for _ in range(source.randint(1, 2)):
        at = source.randrange(len(passes) + 1)
        kind = source.randrange(4)
        if kind == 0 or at == len(passes):
            passes[at:at] = random_passes(source, 1, functions, unroll)
        elif kind == 1:
            del passes[at]
        elif kind == 2 and passes[at][1] != passes[at][2]:
            passes[at] = ("first" if passes[at][0] == "now" else "now",) + passes[at][1:]
        else:
            passes.insert(source.randrange(len(passes)), passes.pop(at))
    return passes


def led_on(source, passes, count, most, links):
    """The list behind so many links taken by chance, through lists of at most so many passes."""
    for _ in range(count):
        ways = [other for other in links(passes) if len(other) <= most]
        passes = source.choice(ways) if ways else passes
    return list(passes)


def random_bodies(source, program, most):
    """Bodies of which many are not reachable: paths are inlined one by one, with nothing behind them."""
    sets = [set() for _ in program.calls]
    for function, paths in enumerate(sets):
        for _ in range(source.randint(0, most)):
            found = open_paths(program.calls, function, paths)
            if found:
                paths.add(source.choice(found[-3:] if source.random() < 0.5 else found))
    return bodies_of(program, sets)


def last_changes(calls, function, paths):
    """All last changes of a body, by the words of point [81]."""
    found = []
    for callee in range(len(calls)):
        ends = [path for path in paths if end(calls, function, path) == callee]
        calls_open = [path for path in open_paths(calls, function, paths) if end(calls, function, path) == callee]
        for part in {tuple(sorted(copy(paths, path))) for path in ends}:
            fit = [path for path in ends if tuple(sorted(copy(paths, path))) == part]
            if callee == function or (callee,) in part:
                continue
            if all(any(len(path) < len(call) and call[:len(path)] == path for path in fit) for call in calls_open):
                found.append((callee, part))
    return found


def peeled(calls, function, paths, change):
    """The paths of a body that are left without a last change."""
    callee, part = change
    fit = [path for path in paths
           if end(calls, function, path) == callee and tuple(sorted(copy(paths, path))) == part]
    return {path for path in paths if not any(path[:len(one)] == one for one in fit)}


def jumps(calls, sets, cycle):
    """The lengths of the jumps from the places of a cycle, by the words of point [101]."""
    function, path = cycle
    found = []
    for at in range(len(path)):
        standing = end(calls, function, path[:at])
        length = 1
        while tuple(path[(at + step) % len(path)] for step in range(length)) in sets[standing]:
            length += 1
        found.append(length)
    return found


def random_cycle(source, calls, most):
    """A cycle of some program, or None: a walk by chance that comes back, without its repetitions."""
    function = standing = source.randrange(len(calls))
    path, places = (), []
    while len(path) < most and calls[standing]:
        call = source.randrange(len(calls[standing]))
        places.append((standing, call))
        path += (call,)
        standing = calls[standing][call]
        if standing == function and source.random() < 0.3:
            break
    if not path or standing != function:
        return None
    for length in range(1, len(path) + 1):
        if len(path) % length == 0 and places == places[:length] * (len(path) // length):
            return function, path[:length]


def next_conflicts(calls, sets, function, path):
    """By the words of point [103]."""
    callee = end(calls, function, path)
    part, present = copy(sets[function], path) if path else sets[function], sets[callee]
    found = set()
    for way in part ^ present:
        if all(way[:length] in part & present for length in range(1, len(way))):
            found.add((function, path + way) if way in part else (callee, way))
    return sorted(found)


def folded(calls, sets, group=()):
    """What is left when paths are folded as long as any can be, with the original bodies of a group kept."""
    sets = [set(paths) for paths in sets]
    done = False
    while not done:
        done = True
        for function, paths in enumerate(sets):
            for path in sorted(paths, reverse=True):
                callee = end(calls, function, path)
                part = copy(paths, path)
                if part == sets[callee] or (not part and callee in group):
                    paths -= {path} | {path + other for other in part}
                    done = False
    return sets


def skipped(calls, sets, log, indexes):
    """The sets behind a log without some steps, and the indexes of the steps done: by the words of point [141]."""
    sets, done = [set(paths) for paths in sets], []
    for at, (function, path, mode) in enumerate(log):
        if at not in indexes and path in open_paths(calls, function, sets[function]):
            inline(calls, sets, function, path, mode)
            done.append(at)
    return sets, done
