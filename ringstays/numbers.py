"""Numberings that tell why the original bodies of a group are not enough: point [115]."""

from ringstays.keeping import check_group, fold_kept
from ringstays.places import Places
from ringstays.values import is_integer, is_list


def is_refutation(bodies, group, value):
    """Whether any value is a refutation of the group."""
    check_group(bodies, group)
    places = Places(bodies.program, bodies.inlined)
    numbers = _numbers_in(bodies, value)
    if numbers is None:
        return False
    plain = [place for place in range(len(numbers)) if _is_plain(places, numbers, place)]
    if not _agree(places, numbers):
        return False
    refuted = list(range(len(bodies.program)))
    for place in plain:
        function = places.standing[place]
        if numbers[place] == numbers[places.tops[function]]:
            refuted = [other for other in refuted if other != function]
        elif function in group:
            return False
    return len(refuted) > 0


def _numbers_in(bodies, value):
    """The numbers of all places in the order of Places, None if the value is no numbering."""
    if not is_list(value) or len(value) != len(bodies.inlined):
        return None
    numbers = []
    for row, told in zip(bodies.inlined, value):
        if not is_list(told) or len(told) != len(row) + 1:
            return None
        for path, one in zip(((),) + row, told):
            if not _is_number_of(path, one):
                return None
            numbers.append(one[1])
    return numbers


def _is_number_of(path, value):
    if not isinstance(value, tuple) or len(value) != 2:
        return False
    told, number = value
    if not is_integer(number) or number < 0 or not isinstance(told, tuple):
        return False
    # True equals 1 to Python, but is no call number.
    return all([is_integer(call) for call in told]) and told == path


def _is_plain(places, numbers, place):
    """Whether each call leads to the number of the top of its callee."""
    return all([numbers[behind] == numbers[places.top_below(behind)] for behind in places.leads[place]])


def _agree(places, numbers):
    """Whether places have equal numbers where the calls of the same function lead to equal numbers."""
    known = {}
    for place, number in enumerate(numbers):
        key = (places.standing[place], *[numbers[behind] for behind in places.leads[place]])
        if known.setdefault(key, number) != number:
            return False
    return True


def refutation(bodies, group):
    """A refutation of the group, None if the group is enough.

    A place gets the number of what is left of it when all is folded that can be, also within it;
    so a place of which a call is left has the number of the callee's top.
    """
    check_group(bodies, group)
    folder = fold_kept(bodies, group)
    if folder.is_done():
        return None
    numbers = {}
    for function in group:
        key = (function, *bodies.program.calls[function])
        numbers[key] = function
    # What is left can be folded no further, so none of its places gets the number of a top.
    _number_places(Places(bodies.program, folder.rows), numbers)
    places = Places(bodies.program, bodies.inlined)
    found = _number_places(places, numbers)
    small = {number: at for at, number in enumerate(sorted(set(found)))}
    numbering = [[] for _ in bodies.inlined]
    for (function, path), number in zip(places.paths, found):
        numbering[function].append((path, small[number]))
    return numbering


def _number_places(places, numbers):
    """The numbers of all places; those of the tops are the functions."""
    found = [None] * len(places.leads)
    for function, top in enumerate(places.tops):
        found[top] = function
    for place in reversed(range(len(places.leads))):
        key = (places.standing[place], *[found[behind] for behind in places.leads[place]])
        if places.at_top[place]:
            numbers[key] = found[place]
        else:
            # There are as many keys ahead of it as this, so the number is new.
            found[place] = numbers.setdefault(key, len(places.tops) + len(numbers))
    return found
