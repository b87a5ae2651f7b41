"""Conflicts between copies and present bodies, and cycles of them: point [103]."""

from ringstays.bodies import holds, position
from ringstays.errors import NotInlined
from ringstays.graphs import find_cycle
from ringstays.places import Places
from ringstays.programs import check_path


def next_conflicts(bodies, function, path):
    """The least paths at which the copy at an inlined path and the present body of the callee differ."""
    check_path(bodies.program, function, path)
    row = bodies.inlined[function]
    if not holds(row, path):
        raise NotInlined(path)
    places = Places(bodies.program, bodies.inlined)
    place = places.tops[function]
    if path != ():
        place += 1 + position(row, path)
    return sorted(set([places.paths[behind] for behind, _ in differences(places, place)]))


def differences(places, place):
    """The inlined places at which the copy at a place and the body of the callee differ first.

    Each comes with the number of calls that lead to it from the place or from the callee's top.
    """
    found = []
    pairs = [(place, places.top_below(place), 1)]
    while pairs:
        here, other, count = pairs.pop()
        for behind, other_behind in zip(places.leads[here], places.leads[other]):
            if not places.at_top[behind] and not places.at_top[other_behind]:
                pairs.append((behind, other_behind, count + 1))
            elif behind != other_behind:
                found.append((other_behind if places.at_top[behind] else behind, count))
    return found


def conflict_cycle(bodies):
    """Conflicts each of which is among the next ones of the one before it, None if there are none."""
    places = Places(bodies.program, bodies.inlined)
    found = cycle_of_places(places)
    return None if found is None else [places.paths[place] for place in found]


def cycle_of_places(places):
    """The places of the conflicts of a conflict cycle, None if there is none."""
    starts = [place for place, top in enumerate(places.at_top) if not top]
    return find_cycle(starts, lambda place: [behind for behind, _ in differences(places, place)])
