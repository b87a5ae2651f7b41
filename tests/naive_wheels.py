"""Second writings for wheels: single steps, cycles of jumps, and how places hang together."""

from itertools import product


def cycles(wheel):
    """The cycles of jumps, each found by jumping on until a place comes again."""
    count, found = len(wheel), set()
    for start in range(count):
        place = start
        for _ in range(count):
            place = (place + wheel[place]) % count
        places, total, here = [place], wheel[place], (place + wheel[place]) % count
        while here != place:
            places.append(here)
            total += wheel[here]
            here = (here + wheel[here]) % count
        found.add((tuple(sorted(places)), total // count))
    return sorted(found)


def after(count, log):
    """The wheel behind single steps, or the index of the first item of which one cannot be done."""
    wheel = [1] * count
    for at, (function, times) in enumerate(log):
        for _ in range(times):
            other = (function + wheel[function]) % count
            if other == function:
                return at
            wheel[function] += wheel[other]
    return wheel


def made(count, most, group=(), start=None):
    """All wheels of lengths up to `most` that steps make, also those of mode "first" with a group kept."""
    found, rest = set(), [(1,) * count]
    while rest:
        wheel = rest.pop()
        if wheel in found or max(wheel) > most:
            continue
        found.add(wheel)
        for function, length in enumerate(wheel):
            other = (function + length) % count
            more = [wheel[other]] if other != function else []
            more += [1] if other in group else []
            rest += [wheel[:function] + (length + part,) + wheel[function + 1:] for part in more]
    return found


def wheels_of(count, total):
    """All wheels of so many lengths with this sum."""
    return [wheel for wheel in product(range(1, total + 1), repeat=count) if sum(wheel) == total]


def pieces(wheel, group, most):
    """For each place below `most` the least one with which it hangs together, if only places below `most` count."""
    piece = list(range(most))

    def root(place):
        while piece[place] != place:
            place = piece[place]
        return place

    count = len(wheel)
    for place in range(most):
        reached = [place + wheel[place % count]] + ([place + 1] if place % count in group else [])
        for other in reached:
            if other < most:
                one, two = sorted((root(place), root(other)))
                piece[two] = one
    return [root(place) for place in range(most)]
