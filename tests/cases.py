"""What several test files use: a way to ask for an error with its very attributes, and wrong values."""

import unittest

from ringstays.errors import InlineError
from ringstays.programs import Program

# Values of all kinds of point [8], none of which is an integer.
NO_INTEGERS = [None, True, False, "0", "", [], (), [0], (0,), {}, {"a": 0}, Program([[]])]
NO_LISTS = [None, True, False, 0, 3, "", "01", {}, {"a": []}, Program([[]])]
NO_TUPLES = [None, True, False, 0, 3, "", "01", {}, [], [0], [[]], Program([[]])]
HUGE = 10 ** 40 - 1


class Case(unittest.TestCase):
    def raises(self, error, values, function, *arguments, **named):
        """The call raises just this error class, with these attributes: the very objects, where `values` are."""
        with self.assertRaises(InlineError) as caught:
            function(*arguments, **named)
        self.assertIs(type(caught.exception), error)
        self.assertEqual(list(vars(caught.exception)), list(values))
        for name, value in values.items():
            held = getattr(caught.exception, name)
            self.assertIs(type(held), type(value))
            self.assertEqual(held, value)
        return caught.exception

    def gives(self, error, given, function, *arguments, **named):
        """The call raises the error with the very object as its attribute `given`."""
        held = self.raises(error, {"given": given}, function, *arguments, **named).given
        self.assertTrue(held is given, "the attribute is another object")
