"""[1.1] and [1.2]: the classes of errors."""

import unittest

from bandrims import errors

TOLD = ["InvalidWeb", "InvalidFormula", "InvalidLengths", "InvalidRims", "InvalidPairing", "InvalidMove",
        "InvalidPieces", "InvalidTable", "InvalidPledge", "InvalidOperation", "ParseError"]
KEEPING = {"InvalidNumber": (IndexError, "given"), "UnknownName": (KeyError, "name"),
           "NothingToUndo": (RuntimeError, "wanted"), "TooMany": (OverflowError, "limit"),
           "Refused": (ArithmeticError, "reason"), "ParseError": (errors.BandError, "spot")}


class Errors(unittest.TestCase):
    def test_band_errors(self):
        self.assertEqual(errors.BandError.__bases__, (ValueError,))
        for name in TOLD:
            self.assertEqual(getattr(errors, name).__bases__, (errors.BandError,), name)

    def test_others(self):
        for name, (base, _) in KEEPING.items():
            self.assertEqual(getattr(errors, name).__bases__, (base,), name)

    def test_all_are_defined_there(self):
        for name in ["BandError", *TOLD, *KEEPING]:
            found = getattr(errors, name)
            self.assertEqual((found.__module__, found.__name__), ("bandrims.errors", name))

    def test_messages(self):
        for name in ["BandError", *TOLD]:
            with self.assertRaises(ValueError) as caught:
                raise getattr(errors, name)("so it is")
            self.assertIs(type(caught.exception), getattr(errors, name))

    def test_kept(self):
        for name, (base, attribute) in KEEPING.items():
            for value in (0, 1, True, None, "a", (), ("pair",), [1], {"a": [2]}, 10 ** 5000, errors.TooMany(3)):
                with self.assertRaises(base) as caught:
                    raise getattr(errors, name)(value)
                self.assertIs(getattr(caught.exception, attribute), value)
                self.assertIs(getattr(getattr(errors, name)(**{attribute: value}), attribute), value)

    def test_what_is_kept_must_be_told(self):
        for name in KEEPING:
            self.assertRaises(TypeError, getattr(errors, name))
            self.assertRaises(TypeError, getattr(errors, name), 1, 2)
