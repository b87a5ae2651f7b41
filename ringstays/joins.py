"""Joins of parts, and the defects of parts that have none: points [133], [134] and [135].

A *state* of parts is a tuple with a place of each part, behind the same calls. A join lands
where all parts land; so its places are the states that are not all at tops.
"""

from ringstays.bodies import Bodies
from ringstays.cycles import cycle_along, is_cycle
from ringstays.errors import InvalidMost, InvalidParts, NoJoin, TooMany
from ringstays.graphs import find_cycle
from ringstays.jumps import cycles_of_jumps, lengths_along
from ringstays.places import Places
from ringstays.programs import check_path
from ringstays.reaching import check_reachable
from ringstays.values import is_integer, is_list, is_within

MOST_PARTS = 3
MOST_IN_PARTS = 120
MOST_JOINED = 400


def _check_parts(parts):
    if not _are_parts(parts):
        raise InvalidParts(parts)
    for part in parts:
        check_reachable(part)
    count = sum([part.size() for part in parts])
    if count > MOST_IN_PARTS:
        raise TooMany(count)


def _are_parts(value):
    if not is_list(value) or not 1 <= len(value) <= MOST_PARTS:
        return False
    if not all([isinstance(part, Bodies) for part in value]):
        return False
    return all([part.program == value[0].program for part in value])


def _places_of(parts):
    return [Places(part.program, part.inlined) for part in parts]


def _state_behind(all_places, state, call):
    return tuple([places.leads[place][call] for places, place in zip(all_places, state)])


def _top_state(all_places, function):
    return tuple([places.tops[function] for places in all_places])


def _is_landing(all_places, state):
    return all([places.at_top[place] for places, place in zip(all_places, state)])


def _states_behind(all_places, state):
    """The states behind the calls of a state, as tuples (call, state), where the join does not land."""
    found = []
    for call in range(len(all_places[0].leads[state[0]])):
        behind = _state_behind(all_places, state, call)
        if not _is_landing(all_places, behind):
            found.append((call, behind))
    return found


def join_defect(parts):
    """A defect of the parts, None if there is none."""
    _check_parts(parts)
    return _defect(parts[0].program, _places_of(parts))


def _defect(program, all_places):
    starts = [_top_state(all_places, function) for function in range(len(program))]
    states = find_cycle(starts, lambda one: [behind for _, behind in _states_behind(all_places, one)])
    if states is None:
        return None
    # Along these states the jumps of each part have come to its cycle of jumps.
    path = []
    for state, following in zip(states, states[1:] + states[:1]):
        path.append(min([call for call, behind in _states_behind(all_places, state) if behind == following]))
    cycle = cycle_along(program, all_places[0].standing[states[0][0]], tuple(path))
    return cycle, _lists_on(all_places, cycle)


def _lists_on(all_places, cycle):
    """For each part the places of its cycle of jumps on a cycle of calls."""
    return [list(cycles_of_jumps(lengths_along(places, cycle))[0][0]) for places in all_places]


def is_join_defect(parts, value):
    """Whether any value is a defect of the parts."""
    _check_parts(parts)
    if not isinstance(value, tuple) or len(value) != 2:
        return False
    cycle, lists = value
    if not is_cycle(parts[0].program, cycle) or not is_list(lists) or len(lists) != len(parts):
        return False
    for told, right in zip(lists, _lists_on(_places_of(parts), cycle)):
        # True equals 1 to Python, but is no place.
        if not is_list(told) or not all([is_integer(place) for place in told]) or list(told) != right:
            return False
    return not _have_common(lists)


def _have_common(lists):
    common = {place: True for place in lists[0]}
    for row in lists[1:]:
        common = {place: True for place in row if place in common}
    return len(common) > 0


class Join:
    """The least common successor of some bodies, which may have any number of inlined paths."""

    def __init__(self, parts):
        _check_parts(parts)
        self.program = parts[0].program
        self.all_places = _places_of(parts)
        defect = _defect(self.program, self.all_places)
        if defect is not None:
            raise NoJoin(defect)

    def is_inlined(self, function, path):
        """Whether the path is inlined in the join's body of the function."""
        check_path(self.program, function, path)
        return self._landings(function, path) == []

    def lands(self, function, path):
        """The numbers of calls of the path behind which the join lands."""
        check_path(self.program, function, path)
        return self._landings(function, path)

    def _landings(self, function, path):
        state = _top_state(self.all_places, function)
        found = []
        for at, call in enumerate(path):
            state = _state_behind(self.all_places, state, call)
            if _is_landing(self.all_places, state):
                found.append(at + 1)
        return found

    def bodies(self, most):
        """The join as Bodies, if it has at most so many inlined paths."""
        if not is_within(most, 1, MOST_JOINED):
            raise InvalidMost(most)
        rows, left = [], most
        for function in range(len(self.program)):
            rows.append(self._row(function, left))
            left -= len(rows[-1])
            if left < 0:
                raise TooMany(most + 1)
        return Bodies(self.program, rows)

    def _row(self, function, most):
        """The inlined paths of the function, or more than so many of them."""
        row = []
        rest = [((), _top_state(self.all_places, function))]
        while rest and len(row) <= most:
            path, state = rest.pop()
            for call, behind in _states_behind(self.all_places, state):
                row.append(path + (call,))
                rest.append((path + (call,), behind))
        return row
