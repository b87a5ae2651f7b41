"""What values of the kinds of points [2], [8] and [10] are."""

MOST_FUNCTIONS = 8
MOST_CALLS = 2000
MOST_INLINED = 2000
MODES = ("now", "first")


def is_integer(value):
    # True and False are integers to Python, but not to the document.
    return isinstance(value, int) and value is not True and value is not False


def is_within(value, least, greatest):
    """Whether any value is an integer from least to greatest."""
    return is_integer(value) and least <= value <= greatest


def is_list(value):
    return isinstance(value, (list, tuple))


def is_mode(value):
    return value in MODES


def is_any_function(value):
    """Whether any value is a function of some program."""
    return is_within(value, 0, MOST_FUNCTIONS - 1)


def is_any_path(value):
    """Whether any value has the form of a path that is not empty."""
    if not isinstance(value, tuple) or not 1 <= len(value) <= MOST_CALLS:
        return False
    for call in value:
        if not is_integer(call) or call < 0:
            return False
    return True


def is_group(value, count):
    """Whether any value is an ascending list of different functions below count."""
    if not is_list(value):
        return False
    least = 0
    for function in value:
        if not is_within(function, least, count - 1):
            return False
        least = function + 1
    return True
