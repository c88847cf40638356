"""A test case that can ask for a refusal."""

import unittest


class RefusingTest(unittest.TestCase):
    def refused(self, kind, ask, *handed_in):
        """Ask, and require a refusal of exactly that kind, which keeps nothing that was handed in."""
        try:
            told = ask(*handed_in)
        except Exception as error:
            self.assertIs(type(error), kind)
            self.assertTrue(all([type(part) is str for part in error.args]))
            return
        self.fail(f"{type(told).__name__} told where {kind.__name__} is required")
