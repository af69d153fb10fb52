"""What tests of wrong inputs share."""

import unittest

from rulesquares.errors import SquareError


class Wrong(unittest.TestCase):
    def check(self, kind, value, call, *given):
        """A call raises an error of just this kind, with this value."""
        with self.assertRaises(SquareError) as caught:
            call(*given)
        self.assertIs(type(caught.exception), kind)
        self.assertEqual(caught.exception.value, value)
