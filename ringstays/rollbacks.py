"""Undoing steps and histories of functions in versions: points [124] and [125]."""

from ringstays.bodies import with_row
from ringstays.errors import InlineError, InvalidDeeds, InvalidStep, NotUndoable, Stopped, StuckAt
from ringstays.programs import led_to
from ringstays.releases import Releases, check_versions, inline_release, release, start
from ringstays.releases import still_inlined, with_present
from ringstays.values import is_any_function, is_any_path, is_list

MOST_DEEDS = 400


def undoable(releases):
    """The ascending list of the undoing steps that can be done."""
    backs = [("back", function, ()) for function in range(len(releases.program)) if _goes_back(releases, function)]
    return backs + _folds(releases)


def _goes_back(releases, function):
    """Whether the version before the present one can be the present one again."""
    number = releases.now[function]
    if number == 0 or still_inlined(releases, function, number - 1):
        return False
    for caller, row in enumerate(releases.inlined):
        for path, version in row:
            if version == number and led_to(releases.program, caller, path) == function:
                return False
    return True


def _folds(releases):
    """The ascending list of the folds that can be done."""
    found = []
    for function, row in enumerate(releases.inlined):
        for at, (path, number) in enumerate(row):
            callee = led_to(releases.program, function, path)
            if number == releases.now[callee] and _copy_in(row, at) == releases.inlined[callee]:
                found.append(("fold", function, path))
    return found


def _copy_in(row, at):
    """The copy at the path with this index in the row."""
    length = len(row[at][0])
    end = at + 1
    while end < len(row) and len(row[end][0]) > length:
        end += 1
    return tuple([(path[length:], number) for path, number in row[at + 1:end]])


def undo(releases, step):
    """The Releases behind an undoing step."""
    if not _is_told(step, "fold", "back"):
        raise InvalidStep(step)
    if step not in undoable(releases):
        raise NotUndoable(step)
    return _undone_by(releases, step)


def _is_told(value, with_path, without):
    """Whether any value is a tuple of one of two kinds, a function, and a path or the empty tuple."""
    if not isinstance(value, tuple) or len(value) != 3:
        return False
    kind, function, path = value
    if not is_any_function(function):
        return False
    return is_any_path(path) if kind == with_path else kind == without and path == ()


def _undone_by(releases, step):
    kind, function, path = step
    if kind == "back":
        return with_present(releases, function, releases.now[function] - 1)
    row = [told for told in releases.inlined[function] if told[0][:len(path)] != path]
    rows = with_row(releases.inlined, function, row)
    return Releases(releases.program, releases.versions, releases.now, rows)


def _undone(releases):
    """The Releases at which undoing ends, and the undoing steps that lead there."""
    steps = []
    found = undoable(releases)
    while found:
        releases = _undone_by(releases, found[0])
        steps.append(found[0])
        found = undoable(releases)
    return releases, steps


def undone(releases):
    """The Releases at which undoing ends."""
    return _undone(releases)[0]


def is_possible(releases):
    """Whether deeds make the releases."""
    return undone(releases) == start(releases.program, releases.versions)


def history(releases):
    """A list of deeds that make the releases."""
    left, steps = _undone(releases)
    if left != start(releases.program, releases.versions):
        raise StuckAt(left)
    kinds = {"fold": "inline", "back": "release"}
    return [(kinds[kind], function, path) for kind, function, path in reversed(steps)]


def replay(program, versions, deeds):
    """The Releases that the deeds make, in order, from the start."""
    check_versions(program, versions)
    if not is_list(deeds) or len(deeds) > MOST_DEEDS or not all([_is_deed(deed) for deed in deeds]):
        raise InvalidDeeds(deeds)
    releases = start(program, versions)
    for at, deed in enumerate(deeds):
        try:
            releases = _done(releases, deed)
        except InlineError:
            raise Stopped(at, releases) from None
    return releases


def _is_deed(value):
    return _is_told(value, "inline", "release")


def _done(releases, deed):
    kind, function, path = deed
    return inline_release(releases, function, path) if kind == "inline" else release(releases, function)
