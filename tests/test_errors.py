"""Point [4]: the errors, their bases, and what they keep."""

import unittest

from plain import ODD
from wrecktold import errors

OF_WRECK = {
    "BadOctets": "at", "BadSetup": "at", "BadFrame": "at", "BadRows": "at", "BadRow": "at", "BadText": "at",
    "Refused": "at", "TooGreat": "most", "Broken": "at", "Quarrel": "paper",
}
OF_KEY = {"NoHappening": "value", "NoChannel": "value", "NoBlock": "value"}


class Errors(unittest.TestCase):
    def test_bases(self):
        self.assertEqual(errors.WreckError.__bases__, (ValueError,))
        self.assertEqual(errors.Cut.__bases__, (Exception,))
        for name in OF_WRECK:
            self.assertEqual(getattr(errors, name).__bases__, (errors.WreckError,), name)
        for name in OF_KEY:
            self.assertEqual(getattr(errors, name).__bases__, (KeyError,), name)

    def test_none_is_derived_from_another(self):
        kinds = [getattr(errors, name) for name in (*OF_WRECK, *OF_KEY, "Cut")]
        for one in kinds:
            self.assertEqual(one.__module__, "wrecktold.errors")
            for other in kinds:
                self.assertEqual(issubclass(one, other), one is other)

    def test_the_argument_is_kept(self):
        for name, attribute in (*OF_WRECK.items(), *OF_KEY.items()):
            kind = getattr(errors, name)
            for value in [*ODD, 7, {"a": 1}, kind]:
                self.assertIs(getattr(kind(value), attribute), value)
                self.assertIs(getattr(kind(**{attribute: value}), attribute), value)

    def test_each_needs_its_argument(self):
        for name in (*OF_WRECK, *OF_KEY):
            with self.assertRaises(TypeError):
                getattr(errors, name)()

    def test_they_are_raised_and_caught(self):
        for name in OF_WRECK:
            with self.assertRaises(errors.WreckError):
                raise getattr(errors, name)(1)
        for name in OF_KEY:
            with self.assertRaises(KeyError):
                raise getattr(errors, name)(1)
        with self.assertRaises(errors.Cut):
            raise errors.Cut()
        self.assertFalse(issubclass(errors.Cut, ValueError))
        self.assertIsInstance(errors.WreckError(), ValueError)


if __name__ == "__main__":
    unittest.main()
