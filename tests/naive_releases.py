"""A second writing of functions in versions: a state is (now, bodies), a body a dict from paths to versions."""

from ringstays.programs import Program
from ringstays.releases import Releases
from tests import naive


def releases_of(program, versions, state):
    now, bodies = state
    return Releases(program, versions, now, [list(body.items()) for body in bodies])


def state_of(releases):
    return list(releases.now), [dict(row) for row in releases.inlined]


def open_paths(calls, versions, state, function):
    now, bodies = state
    body, found = bodies[function], []
    for place in [(), *body]:
        version = body[place] if place else now[function]
        for call in versions[naive.end(calls, function, place)][version]:
            if place + (call,) not in body:
                found.append(place + (call,))
    return sorted(found)


def copy(body, path):
    return {other[len(path):]: version for other, version in body.items()
            if len(other) > len(path) and other[:len(path)] == path}


def inline(calls, state, function, path):
    now, bodies = state
    callee = naive.end(calls, function, path)
    part = {path + other: version for other, version in bodies[callee].items()}
    return now, [body | {path: now[callee]} | part if at == function else body for at, body in enumerate(bodies)]


def with_now(state, function, number):
    now, bodies = state
    return [number if at == function else told for at, told in enumerate(now)], bodies


def deeds(calls, versions, state):
    """All deeds that can be done, with the states behind them."""
    now, bodies = state
    for function in range(len(calls)):
        for path in open_paths(calls, versions, state, function):
            if naive.end(calls, function, path) != function:
                yield ("inline", function, path), inline(calls, state, function, path)
        if now[function] + 1 < len(versions[function]):
            calls_then = versions[function][now[function] + 1]
            if all(len(path) > 1 or path[0] in calls_then for path in bodies[function]):
                yield ("release", function, ()), with_now(state, function, now[function] + 1)


def undoable(calls, versions, state):
    """All undoing steps that can be done, with the states behind them."""
    now, bodies = state
    found = []
    for function, body in enumerate(bodies):
        for path, version in body.items():
            callee = naive.end(calls, function, path)
            if version == now[callee] and copy(body, path) == bodies[callee]:
                left = {other: told for other, told in body.items() if other[:len(path)] != path}
                found.append((("fold", function, path),
                              (now, [left if at == function else told for at, told in enumerate(bodies)])))
        number = now[function]
        inlined = any(version == number and naive.end(calls, caller, path) == function
                      for caller, told in enumerate(bodies) for path, version in told.items())
        if number and not inlined:
            calls_before = versions[function][number - 1]
            if all(len(path) > 1 or path[0] in calls_before for path in body):
                found.append((("back", function, ()), with_now(state, function, number - 1)))
    return sorted(found, key=lambda pair: pair[0])


def start(calls):
    return [0] * len(calls), [{} for _ in calls]


def key(state):
    now, bodies = state
    return tuple(now), tuple(tuple(sorted(body.items())) for body in bodies)


def reachable(calls, versions, most):
    """All states that deeds make with at most so many inlined paths, by their keys."""
    found, rest = {}, [start(calls)]
    while rest:
        state = rest.pop()
        if key(state) not in found and sum(map(len, state[1])) <= most:
            found[key(state)] = state
            rest += [behind for _, behind in deeds(calls, versions, state)]
    return found


def random_versions(source, calls):
    found = []
    for row in calls:
        count = source.randint(1, 4)
        found.append([tuple(call for call in range(len(row)) if source.random() < 0.7) for _ in range(count)])
    return found


def walked(source, calls, versions, length, most=40):
    """The deeds and the state behind some deeds taken by chance."""
    state, log = start(calls), []
    for _ in range(length):
        ways = [(deed, behind) for deed, behind in deeds(calls, versions, state) if sum(map(len, behind[1])) <= most]
        if not ways:
            break
        deed, state = source.choice(ways)
        log.append(deed)
    return log, state


def random_state(source, calls, versions, most):
    """Any right state: paths are inlined with any versions."""
    now = [source.randrange(len(row)) for row in versions]
    bodies = [{} for _ in calls]
    for _ in range(source.randint(0, most)):
        function = source.randrange(len(calls))
        found = open_paths(calls, versions, (now, bodies), function)
        if found:
            path = source.choice(found)
            bodies[function][path] = source.randrange(len(versions[naive.end(calls, function, path)]))
    return now, bodies


def samples(seed, count):
    """Programs, versions and states, of which about half are behind deeds."""
    import random
    source = random.Random(seed)
    for at in range(count):
        program = naive.random_program(source, 3, 2)
        versions = random_versions(source, program.calls)
        if at % 2:
            yield program, versions, random_state(source, program.calls, versions, 5)
        else:
            yield program, versions, walked(source, program.calls, versions, source.randint(0, 8))[1]


def whole(program):
    """One version of each function, with all its calls."""
    return [[tuple(range(len(row)))] for row in Program(program.calls).calls]
