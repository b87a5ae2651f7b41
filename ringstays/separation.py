"""Parting groups and separations of two pass lists: points [63] and [64].

An entry is here a tuple (callee, number), and a row is the tuple of the entries of the passes
that are done at a place, in their order. The number of an entry stands for the row of the copy
that its pass puts in: `copies` is the list of these rows, the same for both lists. So equal
rows stand for equal bodies, and what two rows inline differs exactly if they differ.
"""

from itertools import combinations

from ringstays.cuts import cut, cut_program
from ringstays.programs import complete, path_of
from ringstays.values import MOST_FUNCTIONS, is_any_function
from ringstays.versions import check_two_lists, rows_of
from ringstays.walks import inlines, is_row_of_functions

MOST_PARTING = 3


def parting_group(one, other):
    """Three functions at most such that the lists cut to them are not equal, None for equal lists."""
    check_two_lists(one, other)
    return _group(one, other)


def _group(one, other):
    for size in range(2, MOST_PARTING + 1):
        for group in combinations(range(MOST_FUNCTIONS), size):
            if rows_of(cut(one, group)) != rows_of(cut(other, group)):
                return list(group)
    return None


def separation(one, other):
    """A function and a path from it that just one of the lists inlines, None for equal lists."""
    check_two_lists(one, other)
    group = _group(one, other)
    if group is None:
        return None
    return _separation_in(one, other, group)


def _separation_in(one, other, group):
    """A separation that comes to functions of the group alone, to which the cut lists are not equal."""
    first, second, copies = _numbered_rows(cut(one, group), cut(other, group))
    parted = min([function for function in group if first[function] != second[function]])
    return parted, tuple(_word(copies, first[parted], second[parted]))


def _numbered_rows(one, other):
    """The rows of all functions behind each of the two lists, and the copies."""
    numbers = {(): 0}
    behind = []
    for passes in (one, other):
        rows = [()] * MOST_FUNCTIONS
        for mode, function, callee in passes:
            copy = rows[callee] if mode == "now" else ()
            number = numbers.setdefault(copy, len(numbers))
            rows[function] = rows[function] + ((callee, number),)
        behind.append(rows)
    return behind[0], behind[1], list(numbers)


def _word(copies, first, second):
    """Callees that just one of two different rows inlines, while both inline all but the last one.

    If the lists have d passes up to the last ones of the rows, these are at most d (d + 1) / 2:
    each turn goes on at rows whose last passes stand ahead of these, behind at most d callees
    that are inlined by as many different passes of one list.
    """
    if not first or not second:
        return [(first or second)[0][0]]
    last, other_last = first[-1][0], second[-1][0]
    if last == other_last:
        return _word_of_one_last(copies, first, second, last)
    # At least one of the two orders leads on. Behind the first one the copy of first's last entry
    # is compared with what is only a part of the copy of second's last one, and behind the second
    # order it is the other way round; so the sides cannot be equal both times.
    word = _word_behind(copies, first, second, (other_last, last))
    if word is None:
        word = _word_behind(copies, first, second, (last, other_last))
    return word


def _word_of_one_last(copies, first, second, last):
    """A word [_word] for rows whose last entries have the same callee."""
    if first[:-1] == second[:-1]:
        return _word_behind(copies, first, second, (last,))
    word = _word(copies, first[:-1], second[:-1])
    # If that word ends with a call of the last callee, the last entry inlines it where it was open.
    # Only behind that it has the copy as it is, and no copy of a callee begins with itself.
    if word[-1] == last:
        word.append(last)
    return word


def _word_behind(copies, first, second, callees):
    """A word [_word] with each of these callees as often as can be; None if the rows are equal behind them."""
    word = []
    for callee in callees:
        length, other_length = _length(first, callee), _length(second, callee)
        if length != other_length:
            return word + [callee] * (min(length, other_length) + 1)
        word.extend([callee] * length)
        first, second = _row_behind(copies, first, callee), _row_behind(copies, second, callee)
    if first == second:
        return None
    return word + _word(copies, first, second)


def _length(row, callee):
    """How many calls of the callee one behind the other a row inlines."""
    return len([number for reached, number in row if reached == callee])


def _row_behind(copies, row, callee):
    """The row of the place behind all these calls of the callee."""
    at = max([place for place, entry in enumerate(row) if entry[0] == callee])
    return copies[row[at][1]] + row[at + 1:]


def is_separation(one, other, value):
    """Whether any value is a separation of the two lists."""
    check_two_lists(one, other)
    if not isinstance(value, tuple) or len(value) != 2:
        return False
    function, path = value
    if not is_any_function(function) or not is_row_of_functions(path):
        return False
    count = max(len(one), len(other))
    if not 1 <= len(path) <= count * (count + 1) // 2:
        return False
    return inlines(one, function, path) != inlines(other, function, path)


def separating_program(one, other):
    """A program, a function and a path from it that just one of the lists inlines, None for equal lists."""
    check_two_lists(one, other)
    group = _group(one, other)
    if group is None:
        return None
    function, callees = _separation_in(one, other, group)
    program = cut_program(complete(group[-1] + 1), group)
    return program, function, path_of(program, function, callees)
