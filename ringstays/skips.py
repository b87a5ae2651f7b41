"""Logs of which some steps are skipped: point [142]."""

from ringstays.bodies import bodies_of
from ringstays.causes import bit_of, causes_along, done_log
from ringstays.errors import InvalidIndexes
from ringstays.values import is_group


def skipped(bodies, log, indexes):
    """The Bodies behind the log without these steps, and the indexes of the steps that are done."""
    behind = done_log(bodies, log)
    if not is_group(indexes, len(log)):
        raise InvalidIndexes(indexes)
    struck = sum([bit_of(at) for at in indexes])
    ahead, rows = causes_along(bodies, log)
    done = [at for at, bits in enumerate(ahead) if not (bits | bit_of(at)) & struck]
    left = []
    for row, found in zip(behind.inlined, rows):
        left.append(tuple([path for path in row if not found[path] & struck]))
    return bodies_of(bodies.program, tuple(left)), done
