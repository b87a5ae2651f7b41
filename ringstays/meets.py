"""Successors, logs between bodies, and meets: points [131] and [132].

Bodies land at a path exactly if it leads from the function's top to a top, by the calls of
places [places.py].
"""

from ringstays.bodies import bodies_of
from ringstays.errors import NotBlocks, OtherProgram
from ringstays.folding import Folder
from ringstays.places import Places, is_part
from ringstays.reaching import check_reachable


def _check(one, other):
    if one.program != other.program:
        raise OtherProgram(other)
    check_reachable(one)
    check_reachable(other)


def is_successor(upper, lower):
    """Whether upper is a successor of lower."""
    _check(upper, lower)
    return _gap(_places_of(lower), _places_of(upper)) is None


def _places_of(bodies):
    return Places(bodies.program, bodies.inlined)


def _landings(lower, upper):
    """The places of upper at which lower lands."""
    found = []
    pairs = list(zip(lower.tops, upper.tops))
    while pairs:
        low, high = pairs.pop()
        if lower.at_top[low]:
            found.append(high)
        for low_behind, high_behind in zip(lower.leads[low], upper.leads[high]):
            if not upper.at_top[high_behind]:
                pairs.append((low_behind, high_behind))
    return found


def _gap(lower, upper):
    """A place of upper at which lower lands and not all is inlined that lower's body has, None if there is none."""
    for place in _landings(lower, upper):
        if not is_part(lower, upper, place):
            return place
    return None


def between(lower, upper):
    """A log of mode "now" that makes upper of lower."""
    _check(lower, upper)
    low, high = _places_of(lower), _places_of(upper)
    gap = _gap(low, high)
    if gap is not None:
        function, path = high.paths[gap]
        raise NotBlocks(function, path)
    # All bodies on the way are successors of lower, so their steps inline paths at which lower lands.
    allowed = {high.paths[place]: True for place in _landings(low, high)}
    folder = Folder(upper.program, upper.inlined, [], allowed)
    folder.fold_all()
    return folder.steps[::-1]


def meet(one, other):
    """The Bodies that one and other are successors of, and that are one of all others of this kind."""
    _check(one, other)
    places = _places_of(one)
    kinds = _kinds(places, _places_of(other))
    # The meet lands wherever one of the two does. So it lands, too, where calls of the same path
    # go on from a landing and come to one; places of a kind are such as this makes one.
    landed = {kinds[top]: True for top in places.tops}
    rows = []
    for top in places.tops:
        row, rest = [], [top]
        while rest:
            for behind in places.leads[rest.pop()]:
                if kinds[behind] not in landed:
                    row.append(places.paths[behind][1])
                    rest.append(behind)
        rows.append(tuple(sorted(row)))
    return bodies_of(one.program, tuple(rows))


def _kinds(places, others):
    """For each place of the first bodies a number of its kind.

    The tops of a function in both bodies are of one kind, and so are the places behind the same
    call of two places of one kind.
    """
    count = len(places.leads)
    leads = places.leads + [[count + behind for behind in row] for row in others.leads]
    parents = list(range(len(leads)))
    pairs = [(top, count + other) for top, other in zip(places.tops, others.tops)]
    while pairs:
        first, second = pairs.pop()
        first, second = _root(parents, first), _root(parents, second)
        if first != second:
            parents[second] = first
            pairs.extend(list(zip(leads[first], leads[second])))
    return [_root(parents, place) for place in range(count)]


def _root(parents, place):
    while parents[place] != place:
        parents[place] = parents[parents[place]]
        place = parents[place]
    return place
