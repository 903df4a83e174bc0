import unittest

from arealots import errors
from tests.helper import NOTHING

GIVEN = ("InvalidText", "InvalidName", "InvalidIndex", "InvalidNumber", "InvalidMove", "InvalidWalk", "InvalidPlan",
         "InvalidWish", "NotLot")
INDEX = ("InvalidButtons", "InvalidMoves", "InvalidChanges", "InvalidWishes")
BASES = {"WrongValue": ValueError, "WrongName": LookupError, "NotPossible": ArithmeticError}


def told():
    """Triples: the name of a class, that of its base class, and its attributes."""
    rows = [(name, "WrongValue", ("given",)) for name in GIVEN]
    rows += [(name, "WrongValue", ("index",)) for name in INDEX]
    rows += [("UnknownName", "WrongName", ("given",)), ("InUse", "WrongName", ("index",))]
    rows += [("NoWalk", "NotPossible", ()), ("NothingToUndo", "NotPossible", ()), ("Broken", "NotPossible", ("index",))]
    return rows


class ErrorsTest(unittest.TestCase):
    def test_base_classes(self):
        for name, base in BASES.items():
            found = getattr(errors, name)
            self.assertEqual((found.__name__, found.__bases__), (name, (base,)))
            self.assertIsInstance(found(), base)

    def test_each_class_has_one_base_class(self):
        for name, base, _ in told():
            found = getattr(errors, name)
            self.assertEqual((found.__name__, found.__bases__), (name, (getattr(errors, base),)))

    def test_no_other_classes(self):
        found = {name for name, value in vars(errors).items() if isinstance(value, type)}
        self.assertEqual(found, set(BASES) | {name for name, _, _ in told()})

    def test_made_by_position_and_by_name(self):
        for name, _, attributes in told():
            for value in NOTHING + (0, -1, "", (), 10 ** 100):
                made = getattr(errors, name)
                by_position = made(*[value for _ in attributes])
                by_name = made(**{attribute: value for attribute in attributes})
                for error in (by_position, by_name):
                    self.assertEqual(tuple(vars(error)), attributes)
                    for attribute in attributes:
                        self.assertIs(getattr(error, attribute), value)

    def test_attributes_are_needed_and_no_others_are_taken(self):
        for name, _, attributes in told():
            made = getattr(errors, name)
            with self.assertRaises(TypeError):
                made(other=1)
            if attributes:
                self.assertRaises(TypeError, made)
                self.assertRaises(TypeError, made, 1, 2)

    def test_raised_and_caught_by_base_class(self):
        for name, base, attributes in told():
            made = getattr(errors, name)
            with self.assertRaises(BASES[base]):
                raise made(*attributes)


if __name__ == "__main__":
    unittest.main()
