"""What several files of tests use."""

import unittest

from heldtones.errors import ToneError


class ErrorCase(unittest.TestCase):
    def check_error(self, error, value, call, *arguments, **named):
        """Check that a call raises just this error, with just this value."""
        with self.assertRaises(ToneError) as caught:
            call(*arguments, **named)
        self.assertIs(type(caught.exception), error)
        self.assertEqual(caught.exception.value, value)
        self.assertIs(type(caught.exception.value), type(value))
