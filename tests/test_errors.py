"""Promise [2]: the classes of refusals, and their field what."""

import unittest

from sheafbooks import errors

NAMES = ("NoPart", "NoNode", "NoForm", "NoEdition", "NoKey", "NoDeed", "There", "InUse", "TooLong", "Unsound",
         "Unlawful", "BadRow")
WHATS = ("name", "", 0, 7, -3, 10 ** 5000, None, ("edition", "node"), ("ring", [("a", "")]), ["a"], ())


class Errors(unittest.TestCase):
    def test_classes(self):
        self.assertEqual(errors.SheafError.__bases__, (ValueError,))
        for name in NAMES:
            self.assertEqual(getattr(errors, name).__bases__, (errors.SheafError,), name)
            self.assertEqual(getattr(errors, name).__name__, name)

    def test_none_under_another(self):
        for name in NAMES:
            for other in NAMES:
                under = issubclass(getattr(errors, name), getattr(errors, other))
                self.assertIs(under, name == other, (name, other))

    def test_what(self):
        for name in NAMES + ("SheafError",):
            made = getattr(errors, name)
            for what in WHATS:
                self.assertIs(made(what).what, what)
                self.assertIs(made(what=what).what, what)

    def test_what_is_needed(self):
        for name in NAMES + ("SheafError",):
            with self.assertRaises(TypeError):
                getattr(errors, name)()

    def test_raised_and_caught(self):
        for name in NAMES + ("SheafError",):
            for base in (getattr(errors, name), errors.SheafError, ValueError):
                with self.assertRaises(base) as caught:
                    raise getattr(errors, name)("this")
                self.assertEqual(caught.exception.what, "this")
                self.assertIs(type(caught.exception), getattr(errors, name))


if __name__ == "__main__":
    unittest.main()
