"""Second writings for reachable bodies: what logs make, all small bodies, and how jumps meet."""

from itertools import product

from tests import naive


def paths_below(calls, function, most):
    """All rows of paths of a body of at most so many paths."""
    found, rest = [], [frozenset()]
    while rest:
        found += rest
        grown = {paths | {path} for paths in rest if len(paths) < most
                 for path in naive.open_paths(calls, function, paths)}
        rest = sorted(grown, key=sorted)
    return found


def all_bodies(calls, most):
    """All bodies of at most so many inlined paths in all."""
    rows = [paths_below(calls, function, most) for function in range(len(calls))]
    return [sets for sets in product(*rows) if sum(map(len, sets)) <= most]


def steps_from(calls, sets, group):
    for function, paths in enumerate(sets):
        for path in naive.open_paths(calls, function, paths):
            callee = naive.end(calls, function, path)
            if callee != function:
                yield function, path, "now"
            if callee in group:
                yield function, path, "first"


def successors(calls, most, group=(), start=None):
    """A dict from all bodies that logs make, of at most so many paths, to those one step further."""
    start = start or tuple(frozenset() for _ in calls)
    found, rest = {}, [start]
    while rest:
        sets = rest.pop()
        if sets in found:
            continue
        found[sets] = set()
        for step in steps_from(calls, sets, group):
            behind = [set(paths) for paths in sets]
            naive.inline(calls, behind, *step)
            if sum(map(len, behind)) <= most:
                found[sets].add(tuple(map(frozenset, behind)))
        rest.extend(found[sets])
    return found


def all_above(graph):
    """For each of these bodies all that logs make of them, themselves too."""
    above = {}
    for sets in sorted(graph, key=lambda sets: -sum(map(len, sets))):
        above[sets] = {sets}.union(*[above[other] for other in graph[sets]])
    return above


def meet_each_other(lengths, one, other):
    """Whether the jumps from two places come to a common one."""
    met = set()
    while one != other:
        one, other = min(one, other), max(one, other)
        if (one % len(lengths), other - one) in met:
            return False
        met.add((one % len(lengths), other - one))
        one += lengths[one % len(lengths)]
    return True


def landings(calls, sets, function, path):
    """The numbers of calls behind which bodies land along a path: jump by jump."""
    found, at = [], 0
    while True:
        length = 1
        while at + length <= len(path) and path[at:at + length] in sets[function]:
            length += 1
        if at + length > len(path):
            return found
        function = naive.end(calls, function, path[at:at + length])
        at += length
        found.append(at)


def all_paths(calls, function, most):
    """All paths of at most so many calls from a function, the empty one too."""
    found, rest = [], [()]
    for _ in range(most + 1):
        found += rest
        rest = [path + (call,) for path in rest for call in range(len(calls[naive.end(calls, function, path)]))]
    return found


def all_cycles(calls, most):
    """All cycles of at most so many calls."""
    found = []
    for function in range(len(calls)):
        for path in all_paths(calls, function, most):
            if path and naive.end(calls, function, path) == function:
                parts = [path[:length] for length in range(1, len(path)) if len(path) % length == 0]
                if not any(part * (len(path) // len(part)) == path and naive.end(calls, function, part) == function
                           for part in parts):
                    found.append((function, path))
    return found
