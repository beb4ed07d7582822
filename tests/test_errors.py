"""[1.1], [1.2]: the errors."""

import unittest

import levelroads.errors as errors
from support import NO_INTEGERS

ROAD = (
    "InvalidLevel InvalidPair InvalidMatrix InvalidFraction InvalidTable InvalidPolynomial InvalidSum InvalidForm "
    "InvalidPrime InvalidElement InvalidLot InvalidRow InvalidPaper InvalidOperation ParseError"
).split()
OTHERS = {
    "InvalidCount": (IndexError, "value"),
    "UnknownName": (KeyError, "name"),
    "NothingToUndo": (RuntimeError, "wanted"),
    "TooMany": (OverflowError, "limit"),
    "Refused": (ArithmeticError, "reason"),
}
KEPT = NO_INTEGERS + (0, 1, -5, "name", ("left", 0), 10 ** 9, object())


class Errors(unittest.TestCase):
    def test_road_error(self):
        self.assertEqual(errors.RoadError.__bases__, (ValueError,))
        self.assertEqual(errors.RoadError("why").args, ("why",))

    def test_errors_of_values(self):
        for name in ROAD:
            self.assertEqual(getattr(errors, name).__bases__, (errors.RoadError,), name)

    def test_not_from_one_another(self):
        names = ROAD + list(OTHERS)
        for one in names:
            for other in names:
                if one != other:
                    self.assertFalse(issubclass(getattr(errors, one), getattr(errors, other)), (one, other))

    def test_other_errors(self):
        for name, (base, _) in OTHERS.items():
            self.assertEqual(getattr(errors, name).__bases__, (base,), name)
            self.assertFalse(issubclass(getattr(errors, name), errors.RoadError), name)

    def test_messages(self):
        for name in ROAD:
            if name != "ParseError":
                error = getattr(errors, name)("what is wrong")
                self.assertEqual(error.args, ("what is wrong",))
                with self.assertRaises(errors.RoadError):
                    raise error

    def test_what_is_kept(self):
        for name, attribute in [("ParseError", "index")] + [(name, kept) for name, (_, kept) in OTHERS.items()]:
            for value in KEPT:
                error = getattr(errors, name)(value)
                self.assertIs(getattr(error, attribute), value)
                self.assertIsInstance(str(error), str)
                with self.assertRaises(getattr(errors, name)) as caught:
                    raise error
                self.assertIs(getattr(caught.exception, attribute), value)

    def test_all_are_defined_here(self):
        for name in ["RoadError"] + ROAD + list(OTHERS):
            self.assertEqual(getattr(errors, name).__module__, "levelroads.errors")


if __name__ == "__main__":
    unittest.main()
