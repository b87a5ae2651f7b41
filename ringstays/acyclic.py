"""Programs in which no function calls itself, directly or by others: point [91]."""

from ringstays.graphs import find_cycle


def is_acyclic(program):
    """Whether no path but the empty one leads a function to itself."""
    return cycle_in(program) is None


def cycle_in(program):
    """A function and a path that leads back to it, None if the program is acyclic."""
    functions = find_cycle(list(range(len(program))), lambda function: list(program.calls[function]))
    if functions is None:
        return None
    behind = functions[1:] + functions[:1]
    return functions[0], tuple([program.calls[one].index(other) for one, other in zip(functions, behind)])
