import itertools
import unittest

from arealots import lots
from arealots.errors import InvalidButtons, InvalidChanges, InvalidText
from arealots.lots import Lot
from tests.helper import NO_INTEGERS, NO_MOVES, NOTHING, Case, Equal, Strange

BIG = 10 ** 30
FIVE = ((1, 0, 0), (0, 1, 0), (0, 0, 0), (BIG, -BIG, BIG), (1, 0, 0))
TEXTS = (
    (((1, 0, 0),), "button 1 0 0"),
    (((0, 0, 0),), "button 0 0 0"),
    (((0, 0, 0), (0, 0, 0)), "button 0 0 0\nbutton 0 0 0"),
    (((2, 4, 1), (3, 6, 2)), "button 2 4 1\nbutton 3 6 2"),
    (((3, 6, 2), (2, 4, 1)), "button 3 6 2\nbutton 2 4 1"),
    (((-3, -4, 12), (3, 4, -12), (0, 0, 7)), "button -3 -4 12\nbutton 3 4 -12\nbutton 0 0 7"),
    (FIVE, f"button 1 0 0\nbutton 0 1 0\nbutton 0 0 0\nbutton {BIG} -{BIG} {BIG}\nbutton 1 0 0"),
)
NO_TEXTS = (
    "", " ", "\n", "button", "button ", "button 1", "button 1 2", "button 1 2 3 4", "button 1 2 3 ", " button 1 2 3",
    "button  1 2 3", "button 1  2 3", "button 1 2  3", "button 1 2 3\n", "\nbutton 1 2 3",
    "button 1 2 3\n\nbutton 1 2 3",
    "button 1 2 3 button 1 2 3", "Button 1 2 3", "buttons 1 2 3", "butto 1 2 3", "button1 2 3", "1 2 3", "move 1 2 3",
    "button +1 2 3", "button 01 2 3", "button 1 -0 3", "button 1 2 3.0", "button 1 2 x", "button - 2 3",
    "button 1 2 --3",
    "button 1,2,3", "button 1_0 2 3", "button\n1 2 3", "button 1\n2 3", "button 1 2 3\nbutton", "button 1 2 3\n1 2 3",
    "button 1 2 3\nbutton 1 2", "button button 1 2 3", "button (1, 2, 3)", "button 1 2 3;",
    f"button {BIG + 1} 0 0", f"button 0 -{BIG + 1} 0", f"button 0 0 {BIG + 1}", f"button 1 0 0\nbutton 0 0 -{BIG + 1}",
    "\n".join(["button 1 2 3"] * 6), "\n".join(["button 1 2 3"] * 7), "\n" * 5, "button 1 2 3\r", "button\t1 2 3",
)


class ExamplesTest(Case):
    def test_examples(self):
        self.follows("""
>>> from arealots.lots import Lot
>>> steps, double, line = Lot(((1, 0, 0), (0, 1, 0))), Lot(((2, 0, 0), (0, 3, 1))), Lot.read("button 2 4 1\\nbutton 3 6 2")
>>> [len(line), line.buttons, double.text, repr(line), double.changed(((0, ""),)).text, Lot.read("button 0 0 0") == Lot(((0, 0, 0),))]
[2, ((2, 4, 1), (3, 6, 2)), 'button 2 0 0\\nbutton 0 3 1', 'Lot of 2 buttons', 'button 0 3 1', True]
>>> Lot(((1, 0, 0), (1, 0)))
raises InvalidButtons(index=1)
""")

    def test_interface(self):
        self.assertEqual(Lot.__module__, "arealots.lots")
        self.has_parameters(Lot, ["buttons"])
        self.has_parameters(Lot.read, ["text"])
        self.has_parameters(Lot.changed, ["self", "changes"])
        self.assertIsInstance(vars(Lot)["read"], classmethod)
        for name in ("buttons", "text"):
            self.assertIsInstance(vars(Lot)[name], property)
        for name in ("__init__", "changed", "__eq__", "__len__", "__str__", "__repr__"):
            self.assertIn(name, vars(Lot))

    def test_by_name(self):
        lot = Lot(buttons=((1, 0, 0), (0, 1, 0)))
        self.assertEqual(Lot.read(text="button 1 0 0\nbutton 0 1 0"), lot)
        self.assertEqual(lot.changed(changes=((1, ""),)), Lot(((1, 0, 0),)))


class ButtonsTest(Case):
    def test_one_to_five_buttons(self):
        for many in range(1, 6):
            lot = Lot(FIVE[:many])
            self.assertEqual((len(lot), lot.buttons), (many, FIVE[:many]))

    def test_bounds_of_numbers(self):
        for place in range(3):
            for number in (BIG, -BIG, BIG - 1, 1 - BIG):
                button = tuple(number if at == place else 0 for at in range(3))
                self.assertEqual(Lot((button,)).buttons, (button,))
            for number in (BIG + 1, -BIG - 1, 10 * BIG, -10 ** 90):
                button = tuple(number if at == place else 0 for at in range(3))
                self.refuses(InvalidButtons, {"index": 0}, Lot, (button,))
                self.refuses(InvalidButtons, {"index": 4}, Lot, FIVE[:4] + (button,))

    def test_none_and_no_tuple(self):
        self.refuses(InvalidButtons, {"index": None}, Lot, ())
        for value in NOTHING + (0, 1, "", "button 1 0 0", [(1, 0, 0)], Lot(((1, 0, 0),))):
            if type(value) is not tuple:
                self.refuses(InvalidButtons, {"index": None}, Lot, value)
                self.refuses(InvalidButtons, {"index": None}, Lot, buttons=value)

    def test_no_move(self):
        for value in NO_MOVES:
            self.refuses(InvalidButtons, {"index": 0}, Lot, (value,))
            self.refuses(InvalidButtons, {"index": 2}, Lot, ((1, 0, 0), (0, 1, 0), value, None, (1, 2)))
            self.refuses(InvalidButtons, {"index": 4}, Lot, FIVE[:4] + (value,))
        self.refuses(InvalidButtons, {"index": 0}, Lot, (1, 0, 0))

    def test_the_sixth(self):
        self.refuses(InvalidButtons, {"index": 5}, Lot, ((1, 0, 0),) * 6)
        self.refuses(InvalidButtons, {"index": 5}, Lot, FIVE + FIVE)
        self.refuses(InvalidButtons, {"index": 5}, Lot, FIVE + (None,))
        self.refuses(InvalidButtons, {"index": 5}, Lot, FIVE + ((1, 0, 0), None))
        self.refuses(InvalidButtons, {"index": 3}, Lot, FIVE[:3] + (None,) + FIVE)
        self.refuses(InvalidButtons, {"index": 4}, Lot, FIVE[:4] + ((BIG + 1, 0, 0),) + FIVE)


class TextsTest(Case):
    def test_texts(self):
        for buttons, text in TEXTS:
            lot = Lot(buttons)
            self.assertEqual((lot.text, str(lot)), (text, text))
            read = Lot.read(text)
            self.assertEqual((read.buttons, read.text), (buttons, text))
            self.assertIs(type(read), Lot)
            self.assertEqual([type(number) for button in read.buttons for number in button], [int] * 3 * len(buttons))

    def test_no_texts(self):
        for text in NO_TEXTS:
            self.refuses(InvalidText, {"given": text}, Lot.read, text)
            self.refuses(InvalidText, {"given": text}, Lot.read, text=text)

    def test_no_strings(self):
        for value in NOTHING + (0, 1, (), ("button 1 0 0",), ["button 1 0 0"], b"button 1 0 0", Lot(((1, 0, 0),))):
            self.refuses(InvalidText, {"given": value}, Lot.read, value)

    def test_long_texts(self):
        text = "\n".join([f"button {BIG - 1} {1 - BIG} -{BIG}"] * 5)
        self.assertEqual(Lot.read(text).text, text)
        for text in ("button " + "1" * 3900 + " 0 0", "button 1 0 0\n" * 300, " " * 4000):
            self.refuses(InvalidText, {"given": text}, Lot.read, text)


class ChangedTest(Case):
    def test_all_small_changes(self):
        lot = Lot(((1, 0, 0), (0, 1, 0), (0, 0, 5)))
        news = ("", "button 1 0 0", "button 9 -9 9", "button 1 0", "x")
        for chosen in itertools.product((None,) + news, repeat=3):
            pairs = [(index, new) for index, new in enumerate(chosen) if new is not None]
            lines = [line if new is None else new for line, new in zip(lot.text.split("\n"), chosen)]
            text = "\n".join(line for line in lines if line)
            for changes in itertools.permutations(pairs):
                if "x" in chosen or "button 1 0" in chosen or text == "":
                    self.refuses(InvalidText, {"given": text}, lot.changed, changes)
                else:
                    found = lot.changed(changes)
                    self.assertEqual((type(found), found.text), (Lot, text))
        self.assertEqual(lot, Lot(((1, 0, 0), (0, 1, 0), (0, 0, 5))))

    def test_no_changes(self):
        lot = Lot(FIVE)
        self.assertEqual(lot.changed(()), lot)
        self.assertEqual(lot.changed(((2, "button 0 0 0"),)), lot)

    def test_five_changes_at_once(self):
        changes = tuple((index, f"button {index} 0 0") for index in (3, 1, 4, 0, 2))
        found = Lot(FIVE).changed(changes)
        self.assertEqual(found.buttons, ((0, 0, 0), (1, 0, 0), (2, 0, 0), (3, 0, 0), (4, 0, 0)))
        self.assertEqual(Lot(FIVE).changed(((0, ""), (4, ""), (2, ""))).buttons, (FIVE[1], FIVE[3]))

    def test_nothing_left(self):
        self.refuses(InvalidText, {"given": ""}, Lot(((1, 0, 0),)).changed, ((0, ""),))
        self.refuses(InvalidText, {"given": ""}, Lot(((1, 0, 0), (0, 1, 0))).changed, ((1, ""), (0, "")))

    def test_changed_text_of_no_lot(self):
        lot = Lot(((1, 0, 0), (0, 1, 0)))
        for new in NO_TEXTS:
            if new != "" and "\n" not in new:
                self.refuses(InvalidText, {"given": new + "\nbutton 0 1 0"}, lot.changed, ((0, new),))
                self.refuses(InvalidText, {"given": new}, lot.changed, ((0, ""), (1, new)))

    def test_no_tuple(self):
        lot = Lot(((1, 0, 0),))
        for value in NOTHING + (0, "", [(0, "")], {0: ""}):
            if type(value) is not tuple:
                self.refuses(InvalidChanges, {"index": None}, lot.changed, value)
                self.refuses(InvalidChanges, {"index": None}, lot.changed, changes=value)

    def test_no_pairs(self):
        lot = Lot(((1, 0, 0), (0, 1, 0)))
        wrong = NOTHING + (0, "", (), (0,), (0, "", 0), (0, "", ""), [0, ""], ("", 0), ("0", ""), (0, None), (0, 1))
        wrong += (("", ""), (0, "\n"), (0, "button 1 0 0\n"), (0, "button 1 0 0\nbutton 1 0 0"), (0, b""), (0, ("",)))
        wrong += tuple((index, "") for index in NO_INTEGERS + (-1, -2, 2, 3, BIG, -BIG, Equal()))
        wrong += tuple((1, new) for new in NOTHING + (0, 1, (), Equal()))
        for value in wrong:
            self.refuses(InvalidChanges, {"index": 0}, lot.changed, (value,))
            self.refuses(InvalidChanges, {"index": 1}, lot.changed, ((1, "x"), value, None))

    def test_the_same_line_twice(self):
        lot = Lot(((1, 0, 0), (0, 1, 0), (0, 0, 1)))
        same = (2, "button 0 0 2")
        self.refuses(InvalidChanges, {"index": 1}, lot.changed, (same, same))
        self.refuses(InvalidChanges, {"index": 2}, lot.changed, (same, (0, ""), (2, "")))
        self.refuses(InvalidChanges, {"index": 2}, lot.changed, (same, (0, ""), (0, "x"), None))
        self.refuses(InvalidChanges, {"index": 1}, lot.changed, (same, None, same))

    def test_changes_are_looked_at_before_the_text(self):
        lot = Lot(((1, 0, 0), (0, 1, 0)))
        self.refuses(InvalidChanges, {"index": 1}, lot.changed, ((0, "x"), (2, "")))
        self.refuses(InvalidChanges, {"index": 1}, lot.changed, ((0, "x"), (0, "button 1 0 0")))
        self.refuses(InvalidText, {"given": "x\nbutton 0 1 0"}, lot.changed, ((0, "x"),))


class ObjectsTest(Case):
    def test_equality(self):
        for (buttons, text), (others, _) in itertools.product(TEXTS, TEXTS):
            self.assertIs(Lot(buttons) == Lot(others), buttons == others)
            self.assertIs(Lot(buttons) != Lot(others), buttons != others)
            self.assertIs(Lot.read(text) == Lot(others), buttons == others)

    def test_never_equal_to_other_values(self):
        lot = Lot(((1, 0, 0), (0, 1, 0)))
        for value in NOTHING + (0, lot.text, lot.buttons, "Lot of 2 buttons", 2, [lot], (lot,), Lot, Equal()):
            self.assertIs(lot == value, False)
            self.assertIs(lot != value, True)
        for value in (None, 0, lot.text, lot.buttons, [lot]):
            self.assertIs(value == lot, False)
            self.assertIs(value != lot, True)

    def test_texts_and_lengths(self):
        for many in range(1, 6):
            lot = Lot(FIVE[:many])
            self.assertEqual((repr(lot), len(lot), bool(lot)), (f"Lot of {many} buttons", many, True))
            self.assertEqual([type(value) for value in (repr(lot), str(lot), len(lot))], [str, str, int])
        self.assertEqual(repr(Lot(((0, 0, 0),))), "Lot of 1 buttons")

    def test_lots_never_change(self):
        lot = Lot(FIVE)
        for name in ("buttons", "text"):
            with self.assertRaises(AttributeError):
                setattr(lot, name, ())
        self.refuses(InvalidText, {"given": "x\n" + lot.changed(((0, ""),)).text}, lot.changed, ((0, "x"),))
        self.assertEqual((lot.buttons, lot.text), TEXTS[-1])

    def test_what_is_passed_is_not_changed(self):
        buttons, changes = [[1, 0, 0]], [[0, ""]]
        self.refuses(InvalidButtons, {"index": 0}, Lot, (buttons[0],))
        self.refuses(InvalidButtons, {"index": None}, Lot, buttons)
        self.refuses(InvalidChanges, {"index": 0}, Lot(FIVE).changed, (changes[0],))
        self.refuses(InvalidChanges, {"index": None}, Lot(FIVE).changed, changes)
        self.assertEqual((buttons, changes), ([[1, 0, 0]], [[0, ""]]))

    def test_needing_a_lot(self):
        self.assertIsNone(lots.need_lot(Lot(FIVE)))
        self.assertRaises(lots.NotLot, lots.need_lot, Strange())


if __name__ == "__main__":
    unittest.main()
