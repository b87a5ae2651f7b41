"""Cycles of calls: point [101]."""

from ringstays.programs import is_function, led_to

MOST_IN_CYCLE = 2100000


def is_cycle(program, value):
    """Whether any value is a cycle of the program."""
    if not isinstance(value, tuple) or len(value) != 2:
        return False
    function, path = value
    if not is_function(program, function) or path == ():
        return False
    if led_to(program, function, path, MOST_IN_CYCLE) != function:
        return False
    return all([not _is_repeated(program, function, path, times) for times in _primes_of(len(path))])


def cycle_along(program, function, path):
    """The cycle whose path, taken once or more, is this path that leads back to the function."""
    for times in _primes_of(len(path)):
        while len(path) % times == 0 and _is_repeated(program, function, path, times):
            path = path[:len(path) // times]
    return function, path


def _is_repeated(program, function, path, times):
    """Whether the path is another one that leads back to the function, taken so many times."""
    length = len(path) // times
    if path[length:] != path[:-length]:
        return False
    return led_to(program, function, path[:length], MOST_IN_CYCLE) == function


def _primes_of(number):
    """The primes that divide the number, ascending."""
    found = []
    divisor = 2
    while divisor * divisor <= number:
        if number % divisor == 0:
            found.append(divisor)
        while number % divisor == 0:
            number //= divisor
        divisor += 1
    return found + [number] if number > 1 else found
