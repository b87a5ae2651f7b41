"""Bodies, their inlined and open paths: points [24] and [25].

In the package, `inlined` is what the attribute of that name is: a tuple with the ascending
tuple of the inlined paths of each function. Each of these tuples is called a row. In a row
the paths behind a path stand right behind it, and they are just the next ones that are longer.
"""

from ringstays.errors import InvalidInlined, NotInlined, TooMany
from ringstays.programs import check_function, check_path, led_to
from ringstays.values import MOST_INLINED, is_list


class Bodies:
    """A program with the inlined paths of each function."""

    def __init__(self, program, inlined=None):
        if inlined is None:
            inlined = original_rows(program)
        if not _are_rows(program, inlined):
            raise InvalidInlined(inlined)
        check_count(count_inlined(inlined))
        self.program = program
        self.inlined = tuple([tuple(sorted(row)) for row in inlined])

    def size(self):
        """The number of inlined paths of all functions together."""
        return count_inlined(self.inlined)

    def __eq__(self, other):
        return isinstance(other, Bodies) and self.program == other.program and self.inlined == other.inlined


def original_rows(program):
    return tuple([() for _ in program.calls])


def _are_rows(program, value):
    if not is_list(value) or len(value) != len(program):
        return False
    return all([_is_row_of_paths(program, function, row) for function, row in enumerate(value)])


def _is_row_of_paths(program, function, value):
    if not is_list(value):
        return False
    known = {(): True}
    for path in value:
        # A value that is no path may not be fit for a key, so this is asked first.
        if led_to(program, function, path) is None or path in known:
            return False
        known[path] = True
    return all([path[:-1] in known for path in value])


def count_inlined(inlined):
    return sum([len(row) for row in inlined])


def check_count(count):
    if count > MOST_INLINED:
        raise TooMany(count)


def bodies_of(program, inlined):
    """Bodies of rows that the package made itself, and that are right."""
    # The constructor would judge each call of each path anew, behind every step. The object
    # is changed here alone, while nobody else has it.
    bodies = Bodies(program)
    bodies.inlined = inlined
    return bodies


def with_row(inlined, function, row):
    """The rows with another one for this function."""
    return inlined[:function] + (row,) + inlined[function + 1:]


def position(row, path):
    """The index at which the path stands in the row, or at which it would have to stand."""
    low, high = 0, len(row)
    while low < high:
        middle = (low + high) // 2
        if row[middle] < path:
            low = middle + 1
        else:
            high = middle
    return low


def holds(row, path):
    """Whether the path is empty or in the row."""
    if path == ():
        return True
    at = position(row, path)
    return at < len(row) and row[at] == path


def block_end(row, at):
    """The index behind the path at this index and all that are behind it."""
    end = at + 1
    while end < len(row) and len(row[end]) > len(row[at]):
        end += 1
    return end


def copy_in(row, at):
    """The copy at the path with this index in the row."""
    length = len(row[at])
    return tuple([path[length:] for path in row[at + 1:block_end(row, at)]])


def is_copy_in(row, at, body):
    """Whether the copy at the path with this index in the row is just this body."""
    # Most copies have another size, and a copy of long paths takes long to make.
    return block_end(row, at) - at - 1 == len(body) and copy_in(row, at) == body


def body_calls(program, function, row):
    """All calls of a body, in the order of its text, as tuples (place, call, callee, inlined).

    The place is the path to the function whose call it is, so place + (call,) is the call's path.
    """
    found = []
    places = [((), function, 0)]
    at = 0
    while places:
        place, standing, call = places.pop()
        if call == len(program.calls[standing]):
            continue
        places.append((place, standing, call + 1))
        reached = program.calls[standing][call]
        # The row is met in its own order, so its next path alone can be this one.
        inlined = at < len(row) and len(row[at]) == len(place) + 1 and row[at][-1] == call
        found.append((place, call, reached, inlined))
        if inlined:
            places.append((row[at], reached, 0))
            at += 1
    return found


def open_calls(program, function, row):
    """The open calls of a body, in ascending order of their paths, as tuples (place, call, callee)."""
    found = body_calls(program, function, row)
    return [(place, call, reached) for place, call, reached, inlined in found if not inlined]


def is_inlined(bodies, function, path):
    """Whether the path is inlined; the empty path is."""
    check_path(bodies.program, function, path)
    return holds(bodies.inlined[function], path)


def open_paths(bodies, function):
    """The ascending list of the paths of the open calls."""
    check_function(bodies.program, function)
    found = open_calls(bodies.program, function, bodies.inlined[function])
    return [place + (call,) for place, call, _ in found]


def self_calls(bodies, function):
    """The ascending list of the paths of the open calls that lead to the function itself."""
    check_function(bodies.program, function)
    found = open_calls(bodies.program, function, bodies.inlined[function])
    return [place + (call,) for place, call, reached in found if reached == function]


def copy_at(bodies, function, path):
    """The copy at an inlined path; at the empty path it is the present body."""
    check_path(bodies.program, function, path)
    row = bodies.inlined[function]
    if not holds(row, path):
        raise NotInlined(path)
    if path == ():
        return row
    return copy_in(row, position(row, path))
