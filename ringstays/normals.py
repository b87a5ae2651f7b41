"""Normal pass lists: point [73]."""

from ringstays.errors import TooMany
from ringstays.passes import MOST_PASSES, check_passes, is_pass_list
from ringstays.unrolling import spread
from ringstays.values import MOST_FUNCTIONS


def is_normal(value):
    """Whether any value is a normal pass list."""
    if not is_pass_list(value):
        return False
    last_callees = [None] * MOST_FUNCTIONS
    for mode, function, callee in value:
        if mode == "now" and last_callees[callee] in (None, callee):
            return False
        last_callees[function] = callee
    return True


def normal(passes):
    """A normal list with the plain rows of the pass list."""
    check_passes(passes)
    found = spread(passes)
    # A pass of the list is an entry of a row, so they are equally many.
    if len(found) > MOST_PASSES:
        raise TooMany(len(found))
    return found
