"""Bodies that logs of mode "now" make of the original ones, and what tells against it: points [104] and [105]."""

from ringstays.bodies import bodies_of
from ringstays.conflicts import cycle_of_places, differences
from ringstays.cycles import cycle_along, is_cycle
from ringstays.errors import Unreachable
from ringstays.folding import Folder
from ringstays.jumps import cycle_of_jumps, cycles_of_jumps, lengths_along
from ringstays.places import Places
from ringstays.values import is_integer


def _folded(bodies):
    folder = Folder(bodies.program, bodies.inlined, [])
    folder.fold_all()
    return folder


def is_reachable(bodies):
    """Whether a log of mode "now" makes the bodies of the original ones."""
    return _folded(bodies).is_done()


def check_reachable(bodies):
    if not is_reachable(bodies):
        raise Unreachable(witness(bodies))


def folded(bodies):
    """The Bodies that are left when inlined calls are folded as long as any can be."""
    return bodies_of(bodies.program, _folded(bodies).rows)


def fold_out(bodies):
    """Foldings that make these of the bodies."""
    return _folded(bodies).steps


def reach(bodies):
    """A log of mode "now" that makes the bodies of the original ones."""
    folder = _folded(bodies)
    if not folder.is_done():
        raise Unreachable(witness(bodies))
    return folder.steps[::-1]


def witness(bodies):
    """A cycle and two places of it from which jumps come to no common place, None for reachable bodies."""
    if is_reachable(bodies):
        return None
    places = Places(bodies.program, bodies.inlined)
    cycle = _cycle_of(bodies.program, places, cycle_of_places(places))
    found = cycles_of_jumps(lengths_along(places, cycle))
    one = found[0][0][0]
    if len(found) > 1:
        return cycle, one, found[1][0][0]
    # The one cycle of jumps goes round more than once, so it comes to a place in some rounds alone.
    return cycle, one, one + len(cycle[1])


def _cycle_of(program, places, conflicts):
    """A cycle of calls on which some jumps come to no common place.

    A conflict stands for two jumps, of which the second one begins within the first one, behind
    the calls of the conflict's path. It differs first from the next conflict by the calls behind
    which the shorter of these jumps ends. So by the calls of all differences of a conflict cycle
    both go on, without a common place, to where they are as at the beginning.
    """
    function, path = places.paths[conflicts[0]]
    calls = list(path)
    for place, following in zip(conflicts, conflicts[1:] + conflicts[:1]):
        count = min([count for behind, count in differences(places, place) if behind == following])
        calls.extend(places.paths[following][1][-count:])
    return cycle_along(program, function, tuple(calls[:len(calls) - len(path)]))


def is_witness(bodies, value):
    """Whether any value is a witness against the bodies."""
    if not isinstance(value, tuple) or len(value) != 3:
        return False
    cycle, one, other = value
    if not is_cycle(bodies.program, cycle) or not is_integer(one) or not is_integer(other):
        return False
    if not 0 <= one < other < 2 * len(cycle[1]):
        return False
    lengths = lengths_along(Places(bodies.program, bodies.inlined), cycle)
    return _end_of_jumps(lengths, one) != _end_of_jumps(lengths, other)


def _end_of_jumps(lengths, place):
    """What is equal for two places exactly if the jumps from them come to a common place."""
    count = len(lengths)
    # Behind so many jumps each place is on a cycle of jumps.
    for _ in range(count):
        place += lengths[place % count]
    places, rounds = cycle_of_jumps(lengths, place % count)
    while place % count != places[0]:
        place += lengths[place % count]
    return places[0], place // count % rounds
