"""Functions in several versions, and steps with the present ones: points [121], [122] and [123]."""

from ringstays.bodies import original_rows, with_row
from ringstays.errors import InvalidInlined, InvalidNow, InvalidVersions, LastVersion
from ringstays.errors import NotOpen, SelfCall, StillInlined, TooMany
from ringstays.programs import check_function, led_to
from ringstays.values import is_group, is_list, is_within

MOST_VERSIONS = 4
MOST_RELEASED = 200


class Releases:
    """A program whose functions have versions, with the present ones and what is inlined."""

    def __init__(self, program, versions, now, inlined=None):
        check_versions(program, versions)
        if not _are_present(versions, now):
            raise InvalidNow(now)
        if inlined is None:
            inlined = original_rows(program)
        if not _are_rows(program, versions, now, inlined):
            raise InvalidInlined(inlined)
        count = sum([len(row) for row in inlined])
        if count > MOST_RELEASED:
            raise TooMany(count)
        self.program = program
        self.versions = tuple([tuple(row) for row in versions])
        self.now = tuple(now)
        self.inlined = tuple([tuple(sorted(row)) for row in inlined])

    def __eq__(self, other):
        if not isinstance(other, Releases) or self.program != other.program:
            return False
        return self.versions == other.versions and self.now == other.now and self.inlined == other.inlined


def check_versions(program, versions):
    if not _are_versions(program, versions):
        raise InvalidVersions(versions)


def _are_versions(program, value):
    if not is_list(value) or len(value) != len(program):
        return False
    for row, told in zip(program.calls, value):
        if not is_list(told) or not 1 <= len(told) <= MOST_VERSIONS:
            return False
        if not all([isinstance(version, tuple) and is_group(version, len(row)) for version in told]):
            return False
    return True


def _are_present(versions, value):
    if not is_list(value) or len(value) != len(versions):
        return False
    return all([is_within(number, 0, len(row) - 1) for row, number in zip(versions, value)])


def _are_rows(program, versions, now, value):
    if not is_list(value) or len(value) != len(program):
        return False
    for function, row in enumerate(value):
        if not _is_row(program, versions, function, now[function], row):
            return False
    return True


def _is_row(program, versions, function, present, value):
    if not is_list(value):
        return False
    # For each path the calls of the version with which it is inlined.
    calls = {(): versions[function][present]}
    for told in value:
        if not isinstance(told, tuple) or len(told) != 2:
            return False
        path, number = told
        callee = led_to(program, function, path)
        if callee is None or path in calls or not is_within(number, 0, len(versions[callee]) - 1):
            return False
        calls[path] = versions[callee][number]
    return all([path[:-1] in calls and path[-1] in calls[path[:-1]] for path, _ in value])


def start(program, versions):
    """The Releases with nothing inlined and each function in its version 0."""
    check_versions(program, versions)
    return Releases(program, versions, [0 for _ in versions])


def open_release(releases, function):
    """The ascending list of the open paths of the function."""
    check_function(releases.program, function)
    row = releases.inlined[function]
    inlined = {path: True for path, _ in row}
    places = [((), releases.now[function])] + list(row)
    found = []
    for place, number in places:
        callee = led_to(releases.program, function, place)
        for call in releases.versions[callee][number]:
            if place + (call,) not in inlined:
                found.append(place + (call,))
    return sorted(found)


def inline_release(releases, function, path):
    """The Releases in which this open path is inlined with the present version and body of its callee."""
    check_function(releases.program, function)
    callee = led_to(releases.program, function, path)
    # Only what is a path can be compared: True equals 1 to Python.
    if callee is None or path not in open_release(releases, function):
        raise NotOpen(path)
    if callee == function:
        raise SelfCall(function)
    row = list(releases.inlined[function])
    row.append((path, releases.now[callee]))
    row.extend([(path + part, number) for part, number in releases.inlined[callee]])
    rows = with_row(releases.inlined, function, row)
    return Releases(releases.program, releases.versions, releases.now, rows)


def release(releases, function):
    """The Releases in which the next version of the function is its present one."""
    check_function(releases.program, function)
    following = releases.now[function] + 1
    if following == len(releases.versions[function]):
        raise LastVersion(function)
    lacking = still_inlined(releases, function, following)
    if lacking:
        raise StillInlined(lacking[0])
    return with_present(releases, function, following)


def still_inlined(releases, function, number):
    """The ascending list of the inlined calls of the function that this version of it lacks."""
    calls = releases.versions[function][number]
    return [path[0] for path, _ in releases.inlined[function] if len(path) == 1 and path[0] not in calls]


def with_present(releases, function, number):
    """The Releases with this version of the function as its present one."""
    now = with_row(releases.now, function, number)
    return Releases(releases.program, releases.versions, now, releases.inlined)
