"""Pass lists and programs cut down to some functions: point [44]."""

from ringstays.errors import InvalidGroup
from ringstays.passes import check_passes
from ringstays.programs import Program
from ringstays.values import MOST_FUNCTIONS, is_group


def _check_functions(functions):
    if not is_group(functions, MOST_FUNCTIONS):
        raise InvalidGroup(functions)


def cut(passes, functions):
    """The passes whose function and callee are both in the group, in the same order."""
    check_passes(passes)
    _check_functions(functions)
    return [one for one in passes if one[1] in functions and one[2] in functions]


def cut_program(program, functions):
    """The program in which just the calls within the group are left."""
    _check_functions(functions)
    calls = []
    for function, row in enumerate(program.calls):
        kept = [callee for callee in row if callee in functions]
        calls.append(kept if function in functions else [])
    return Program(calls)
