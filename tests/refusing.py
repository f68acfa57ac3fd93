"""What the tests share: refusals are asked for with their class and all their fields."""

import unittest


class RefusalCase(unittest.TestCase):
    """A test case that can tell a refusal just so."""

    def assert_refused(self, kind, fields, deed, *given, **named):
        """The deed is refused with just this class, and with just these fields."""
        with self.assertRaises(kind) as caught:
            deed(*given, **named)
        self.assertEqual(caught.exception.__class__, kind)
        self.assertEqual(vars(caught.exception), fields)
