"""Jumps along cycles of calls: points [101] and [102].

Along an endless path all jumps are followed at once. At each of its places some of them have
begun and not yet ended; each of these has come to a place of bodies [places.py]. The longest
of them tells all others, because what these have taken are the last calls of what it has taken.
"""

from ringstays.cycles import is_cycle
from ringstays.errors import InvalidCycle
from ringstays.places import Places


class Followers:
    """For each place of bodies, of the jump that has come to it, the shorter jumps that follow it.

    `taken` is how many calls the jump has taken, and `shorter` the place of the longest one that
    follows it. `ended` tells of those that follow it up to its last call and end with this, ahead
    of that longest one, how many calls they had taken; `more` is the next one with such.
    """

    def __init__(self, places):
        count = len(places.leads)
        self.taken, self.shorter = [0] * count, [None] * count
        self.ended, self.more = [[] for _ in range(count)], [None] * count
        reached = list(places.tops)
        while reached:
            further = []
            for place in reached:
                further.extend(self._go_on(places, place))
            reached = further

    def _go_on(self, places, place):
        """Fill in the places behind the inlined calls of a place, and return them."""
        found = []
        for call, behind in enumerate(places.leads[place]):
            if not places.at_top[behind]:
                found.append(behind)
                self._fill(places, place, call, behind)
        return found

    def _fill(self, places, place, call, behind):
        self.taken[behind] = self.taken[place] + 1
        shorter = self.shorter[place]
        while shorter is not None and places.at_top[places.leads[shorter][call]]:
            self.ended[behind].append(self.taken[shorter])
            shorter = self.shorter[shorter]
        # At each place a jump of no calls begins, too.
        shorter = places.top_below(behind) if shorter is None else places.leads[shorter][call]
        self.shorter[behind] = shorter
        self.more[behind] = shorter if self.ended[shorter] else self.more[shorter]


def jumps(bodies, cycle):
    """The lengths of the jumps from the places of the cycle."""
    if not is_cycle(bodies.program, cycle):
        raise InvalidCycle(cycle)
    return lengths_along(Places(bodies.program, bodies.inlined), cycle)


def lengths_along(places, cycle):
    """The lengths of the jumps from the places of a cycle, in bodies with these places."""
    function, path = cycle
    count = len(path)
    followers = Followers(places)
    lengths = [0] * count
    place, at = places.tops[function], 0
    # The longest jump that has not ended began earliest; behind the last place none is asked for.
    while at - followers.taken[place] < count:
        place, ended = _go_along(places, followers, place, path[at % count])
        for taken in ended:
            if at - taken < count:
                lengths[at - taken] = taken + 1
        at += 1
    return lengths


def _go_along(places, followers, place, call):
    """The place of the longest jump behind the call, and how many calls those had taken that end with it."""
    ended = []
    while places.at_top[places.leads[place][call]]:
        ended.append(followers.taken[place])
        if places.at_top[place]:
            break
        place = followers.shorter[place]
    place = places.leads[place][call]
    shorter = place
    while shorter is not None:
        ended.extend(followers.ended[shorter])
        shorter = followers.more[shorter]
    return place, ended


def jump_cycles(bodies, cycle):
    """The cycles of jumps (places, rounds)."""
    return cycles_of_jumps(jumps(bodies, cycle))


def cycles_of_jumps(lengths):
    """The cycles of jumps (places, rounds) of these lengths, from the places in order."""
    count = len(lengths)
    # For each place the one from which it was first come to.
    seen = [None] * count
    found = []
    for start in range(count):
        place = start
        while seen[place] is None:
            seen[place] = start
            place = (place + lengths[place]) % count
        if seen[place] == start:
            found.append(cycle_of_jumps(lengths, place))
    return sorted(found)


def cycle_of_jumps(lengths, start):
    """The cycle of jumps (places, rounds) with this place."""
    places, total, place = [start], lengths[start], start
    while (start + total) % len(lengths) != start:
        place = (start + total) % len(lengths)
        places.append(place)
        total += lengths[place]
    return tuple(sorted(places)), total // len(lengths)


def one_cycle(bodies, cycle):
    """Whether there is just one cycle of jumps, which goes round once."""
    found = jump_cycles(bodies, cycle)
    return len(found) == 1 and found[0][1] == 1
