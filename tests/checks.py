"""What several tests ask for in the same way."""

import inspect
import unittest


class Checks(unittest.TestCase):
    def refused(self, error, value, call, *given, **named):
        """Check that a call is refused with this very error, which has these values and no others."""
        with self.assertRaises(error) as held:
            call(*given, **named)
        self.assertIs(held.exception.__class__, error)
        self.assertEqual(vars(held.exception), value)

    def named(self, call, names, module):
        """Check the names of a call's arguments, and where it is defined."""
        self.assertEqual(list(inspect.signature(call).parameters), names)
        self.assertEqual(call.__module__, module)
