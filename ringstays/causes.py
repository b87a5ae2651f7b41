"""Causes of steps and of inlined paths: point [141].

In the package, causes are an integer: the bit of a number is set in it if the step with this
index is a cause.
"""

from ringstays.bodies import holds
from ringstays.errors import NotInlined, TooMany
from ringstays.logs import apply_log
from ringstays.programs import check_path, led_to

MOST_CAUSING = 400


def done_log(bodies, log):
    """The Bodies behind a log of which the causes are asked."""
    behind = apply_log(bodies, log)
    if len(log) > MOST_CAUSING:
        raise TooMany(len(log))
    return behind


def bit_of(at):
    return 1 << at


def causes_along(bodies, log):
    """The causes of each step, and for each function a dict of those of the paths inlined behind the log."""
    found = []
    rows = [{path: 0 for path in row} for row in bodies.inlined]
    for at, (function, path, mode) in enumerate(log):
        row = rows[function]
        ahead = row[path[:-1]] if len(path) > 1 else 0
        found.append(ahead)
        row[path] = ahead | bit_of(at)
        # Who inlines with the present body has another function for its callee, and so another row.
        copy = rows[led_to(bodies.program, function, path)] if mode == "now" else {}
        for part, more in list(copy.items()):
            row[path + part] = row[path] | more
    return found, rows


def _indexes(bits):
    return [at for at in range(bits.bit_length()) if bits & bit_of(at)]


def causes(bodies, log):
    """The ascending list of the causes of each step."""
    done_log(bodies, log)
    found, _ = causes_along(bodies, log)
    return [_indexes(bits) for bits in found]


def causes_of(bodies, log, function, path):
    """The ascending list of the causes of a path that is inlined behind the log."""
    behind = done_log(bodies, log)
    check_path(bodies.program, function, path)
    if not holds(behind.inlined[function], path):
        raise NotInlined(path)
    if path == ():
        return []
    _, rows = causes_along(bodies, log)
    return _indexes(rows[function][path])
