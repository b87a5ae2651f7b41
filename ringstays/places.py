"""The places of bodies as numbers, and where the calls that stand there lead.

The places are, for each function in turn, its top, which is the empty path, and the inlined
paths of its body, ascending. A call that is inlined leads to the place behind it, which has a
greater number; an open call leads to the top of its callee. So a call is open exactly if it
leads to a top.
"""


class Places:
    """Of each place its function and path, the function that stands there, and where its calls lead."""

    def __init__(self, program, inlined):
        self.tops, self.paths, self.standing, self.leads, self.at_top = [], [], [], [], []
        count = 0
        for row in inlined:
            self.tops.append(count)
            count += 1 + len(row)
        for function, row in enumerate(inlined):
            self._put(program, (function, ()), function)
            self._put_row(program, function, row)

    def _put(self, program, told, callee):
        self.paths.append(told)
        self.standing.append(callee)
        self.leads.append([self.tops[reached] for reached in program.calls[callee]])
        self.at_top.append(told[1] == ())

    def _put_row(self, program, function, row):
        # The places of the beginnings of a path, the empty one among them.
        trail = [self.tops[function]]
        for path in row:
            del trail[len(path):]
            parent, here = trail[-1], len(self.paths)
            self._put(program, (function, path), program.calls[self.standing[parent]][path[-1]])
            self.leads[parent][path[-1]] = here
            trail.append(here)

    def top_below(self, place):
        """The top of the function that stands at the place."""
        return self.tops[self.standing[place]]


def shapes_of(places):
    """A number for each place: equal ones where the same function stands and the same is inlined behind it."""
    numbers, shapes = {}, [None] * len(places.leads)
    for place in reversed(range(len(places.leads))):
        parts = [-1 if places.at_top[behind] else shapes[behind] for behind in places.leads[place]]
        shapes[place] = numbers.setdefault((places.standing[place], *parts), len(numbers))
    return shapes


def is_part(lower, upper, place):
    """Whether all that is inlined in lower's body of the function at a place of upper is so behind this place."""
    pairs = [(lower.tops[upper.standing[place]], place)]
    while pairs:
        low, high = pairs.pop()
        for low_behind, high_behind in zip(lower.leads[low], upper.leads[high]):
            if not lower.at_top[low_behind]:
                if upper.at_top[high_behind]:
                    return False
                pairs.append((low_behind, high_behind))
    return True
