"""The passes that the body of one function needs: points [84] and [85]."""

from ringstays.errors import InvalidFunction
from ringstays.values import is_any_function
from ringstays.versions import check_one_list, check_two_lists, rows_of


def needed(passes, function):
    """The indices of the passes that the body of the function needs."""
    check_one_list(passes)
    _check_function(function)
    return _needed(passes, function)


def least_list(passes, function):
    """The passes that the body of the function needs, in their order."""
    check_one_list(passes)
    _check_function(function)
    return _least(passes, function)


def _check_function(function):
    if not is_any_function(function):
        raise InvalidFunction(function)


def _needed(passes, function):
    # The functions whose bodies are read behind the pass at hand.
    wanted = {function: True}
    found = []
    for at in reversed(range(len(passes))):
        mode, changed, callee = passes[at]
        if changed in wanted:
            found.append(at)
            if mode == "now":
                wanted[callee] = True
    return found[::-1]


def _least(passes, function):
    return [passes[at] for at in _needed(passes, function)]


def same_body(one, other, function):
    """Whether two lists make the same body of the function of every program that has it."""
    check_two_lists(one, other)
    _check_function(function)
    return rows_of(_least(one, function)) == rows_of(_least(other, function))
