"""Foldings and logs where the original bodies of a group are kept: points [111] and [112]."""

from ringstays.bodies import Bodies, bodies_of
from ringstays.errors import InlineError, InvalidGroup, StuckAt
from ringstays.folding import Folder
from ringstays.logs import apply_log
from ringstays.places import Places, shapes_of
from ringstays.programs import callee
from ringstays.values import is_group


def check_group(bodies, group):
    if not is_group(group, len(bodies.program)):
        raise InvalidGroup(group)


def foldable_kept(bodies, group):
    """The ascending list of the steps (function, path, mode) that can be folded."""
    check_group(bodies, group)
    places = Places(bodies.program, bodies.inlined)
    shapes = shapes_of(places)
    found = []
    for place, (function, path) in enumerate(places.paths):
        if places.at_top[place]:
            continue
        if places.standing[place] in group and all([places.at_top[behind] for behind in places.leads[place]]):
            found.append((function, path, "first"))
        if shapes[place] == shapes[places.top_below(place)]:
            found.append((function, path, "now"))
    return found


def fold_kept(bodies, group):
    """The folder behind all foldings with the group kept."""
    folder = Folder(bodies.program, bodies.inlined, group)
    folder.fold_all()
    return folder


def folded_kept(bodies, group):
    """The Bodies that are left when such steps are folded as long as there are any."""
    check_group(bodies, group)
    return bodies_of(bodies.program, fold_kept(bodies, group).rows)


def is_reachable_kept(bodies, group):
    """Whether the group is enough for the bodies."""
    check_group(bodies, group)
    return is_enough(bodies, group)


def is_enough(bodies, group):
    return fold_kept(bodies, group).is_done()


def is_kept_log(bodies, group, value):
    """Whether any value is a log that makes the bodies with the original bodies of the group."""
    check_group(bodies, group)
    try:
        if apply_log(Bodies(bodies.program), value) != bodies:
            return False
    except InlineError:
        return False
    return all([mode == "now" or callee(bodies.program, function, path) in group for function, path, mode in value])


def reach_kept(bodies, group):
    """A log that makes the bodies with the original bodies of the group."""
    check_group(bodies, group)
    folder = fold_kept(bodies, group)
    if not folder.is_done():
        raise StuckAt(bodies_of(bodies.program, folder.rows))
    return folder.steps[::-1]
