"""Calls that raise an error and change nothing."""

import unittest


class Refusing(unittest.TestCase):
    def told_by(self, thing):
        """All that the thing tells of itself; each test class says how."""
        raise NotImplementedError

    def refused(self, thing, act, error, **parts):
        """The call raises the error, with these parts, and changes nothing."""
        before = self.told_by(thing)
        with self.assertRaises(error) as caught:
            act()
        for name, value in parts.items():
            found = getattr(caught.exception, name)
            self.assertEqual(found, value)
            self.assertIs(type(found), type(value))
        self.assertEqual(self.told_by(thing), before)
