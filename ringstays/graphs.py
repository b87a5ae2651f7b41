"""Cycles and orders of things that lead to one another; what a thing leads to is told by a function."""


def find_cycle(starts, nexts):
    """Different things, each leading to the next one and the last to the first, None if there are none.

    All things are asked for that the starts lead to. `nexts` gives a new list for a thing.
    """
    # For each thing met its index on the trail, or -1 once all that it leads to has been met.
    met = {}
    for start in starts:
        if start in met:
            continue
        trail, rest = [start], [nexts(start)]
        met[start] = 0
        while trail:
            if not rest[-1]:
                met[trail.pop()] = -1
                rest.pop()
                continue
            one = rest[-1].pop()
            if one not in met:
                met[one] = len(trail)
                trail.append(one)
                rest.append(nexts(one))
            elif met[one] >= 0:
                return trail[met[one]:]
    return None


def in_order(things, nexts):
    """The things in an order in which each stands ahead of those to which it leads; there is no cycle of them."""
    waits = {one: 0 for one in things}
    for one in things:
        for behind in nexts(one):
            waits[behind] += 1
    free = [one for one in things if not waits[one]]
    found = []
    while free:
        one = free.pop()
        found.append(one)
        for behind in nexts(one):
            waits[behind] -= 1
            if not waits[behind]:
                free.append(behind)
    return found
