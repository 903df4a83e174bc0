import itertools
import unittest

from arealots import mends as module
from arealots.errors import InvalidChanges, InvalidText, InvalidWish, InvalidWishes, NotLot
from arealots.forms import cosets, form, makes
from arealots.lots import Lot
from arealots.mends import holds, mends
from arealots.moves import read_move
from tests.helper import NO_INTEGERS, NO_LOTS, NOTHING, Case, Equal, Strange, in_form, nested

BIG = 10 ** 30
STEPS = Lot(((1, 0, 0), (0, 1, 0)))
DOUBLE = Lot(((2, 0, 0), (0, 3, 1)))
LINE = Lot(((2, 4, 1), (3, 6, 2)))
PURE = Lot(((0, 0, 4), (0, 0, 6), (0, 0, 0)))
WISHES = (
    ("makes", "0 0 0"), ("makes", "2 3 1"), ("makes", "0 0 6"), ("makes", "2 0 0"), ("misses", "2 3 1"),
    ("misses", "1 0 0"), ("misses", "0 0 0"), ("step", 0), ("step", 1), ("step", 2), ("step", 6), ("cosets", 0),
    ("cosets", 1), ("cosets", 8), ("cosets", 36), ("cosets", BIG),
)
NO_WISHES = NOTHING + (
    0, "", "step", (), ("step",), ("step", 1, 2), ["step", 1], ("steps", 1), ("Step", 1), ("", 1), (1, "step"),
    (None, 1),
    ("step", -1), ("step", "1"), ("step", True), ("step", False), ("step", None), ("step", (1,)), ("step", "0 0 0"),
    ("cosets", -1), ("cosets", "1"), ("cosets", True), ("cosets", None), ("cosets", -BIG), ("makes", 1), ("makes", ""),
    ("makes", (0, 0, 0)), ("makes", "0 0"), ("makes", "0 0 0 "), ("makes", "00 0 0"), ("makes", "button 0 0 0"),
    ("makes", None), ("makes", b"0 0 0"), ("misses", 1), ("misses", "1 2"), ("misses", (0, 0, 0)), ("misses", "-0 0 0"),
    ("misses", True), ("makes", "1 2 3", 4), ("makes", "1 2 3\n"), (("makes", "1 2 3"),), ("make", "1 2 3"),
    (b"step", 1), (("step",), 1), (["step"], 1), (Equal(), 1), (Equal(), "0 0 0"), ("step", Equal()),
    ("makes", Equal()), (Strange(), 1), (Strange(), "0 0 0"), ("step", Strange()),
)


def keeps(lot, wish):
    """Whether the wish holds, by what the document tells of it."""
    kind, told = wish
    if kind == "makes":
        return in_form(form(lot), read_move(told))
    if kind == "misses":
        return not in_form(form(lot), read_move(told))
    if kind == "step":
        return form(lot)[2] == told
    return cosets(lot) is not None and cosets(lot) <= told


def mended(lot, wishes, changes):
    """Whether the changes are of different lines and what they make is a lot that keeps the wishes."""
    lines = lot.text.split("\n")
    if len({index for index, _ in changes}) < len(changes):
        return False
    for index, new in changes:
        lines[index] = new
    try:
        found = Lot.read("\n".join(line for line in lines if line))
    except InvalidText:
        return False
    return all(keeps(found, wish) for wish in wishes)


def least_sets(lot, wishes, changes):
    """All least sets of changes, by going through all sets of them and all parts of each."""
    sets = [chosen for many in range(len(changes) + 1) for chosen in itertools.combinations(range(len(changes)), many)]
    good = [chosen for chosen in sets if mended(lot, wishes, [changes[index] for index in chosen])]
    found = [chosen for chosen in good if not any(set(part) < set(chosen) for part in good)]
    return tuple(sorted(found, key=lambda chosen: (len(chosen), chosen)))


class ExamplesTest(Case):
    def test_examples(self):
        self.follows("""
>>> from arealots.lots import Lot
>>> steps, double, line = Lot(((1, 0, 0), (0, 1, 0))), Lot(((2, 0, 0), (0, 3, 1))), Lot.read("button 2 4 1\\nbutton 3 6 2")
>>> from arealots.mends import holds, mends
>>> [holds(double, ("makes", "2 3 1")), holds(double, ("misses", "2 3 1")), holds(double, ("step", 6)), holds(double, ("cosets", 36)), holds(double, ("cosets", 35)), holds(line, ("cosets", 10 ** 9)), holds(line, ("step", 5))]
[True, False, True, True, False, False, True]
>>> mends(double, (("step", 2),), ((0, "button 1 0 0"), (1, "button 0 1 0"), (0, "button 0 0 2"), (1, "button 0 2 0"), (1, "")))
((1,), (2,), (0, 3))
""")

    def test_interface(self):
        for name, parameters in (("holds", ["lot", "wish"]), ("mends", ["lot", "wishes", "changes"])):
            self.has_parameters(getattr(module, name), parameters)
            self.assertEqual(getattr(module, name).__module__, "arealots.mends")
        self.assertIs(holds(wish=("step", 6), lot=DOUBLE), True)
        self.assertEqual(mends(changes=(), wishes=(), lot=DOUBLE), ((),))


class HoldsTest(Case):
    def test_all_wishes(self):
        for lot, wish in itertools.product((STEPS, DOUBLE, LINE, PURE, Lot(((0, 0, 0),)), Lot(((1, 0, 0),))), WISHES):
            self.assertIs(holds(lot, wish), keeps(lot, wish))

    def test_told_wishes(self):
        for lot, wish, told in (
                (DOUBLE, ("step", 6), True), (DOUBLE, ("step", 5), False), (DOUBLE, ("step", 12), False),
                (DOUBLE, ("step", 0), False), (Lot(((1, 0, 0),)), ("step", 0), True), (DOUBLE, ("cosets", 37), True),
                (STEPS, ("cosets", 1), True), (STEPS, ("cosets", 0), False), (PURE, ("cosets", BIG), False),
                (STEPS, ("makes", f"{BIG * BIG} -{BIG} {7 * BIG}"), True), (DOUBLE, ("makes", "1 0 0"), False),
                (DOUBLE, ("misses", "1 0 0"), True), (DOUBLE, ("misses", f"{2 * BIG} 0 0"), False),
                (Lot(((0, 0, 0),)), ("makes", "0 0 0"), True), (Lot(((0, 0, 0),)), ("misses", "0 0 0"), False),
                (Lot(((BIG, 0, 0), (0, BIG, 0))), ("cosets", BIG ** 4), True),
                (Lot(((BIG, 0, 0), (0, BIG, 0))), ("cosets", BIG ** 4 - 1), False),
                (Lot(((BIG, 0, 0), (0, BIG, 0))), ("step", BIG ** 2), True)):
            self.assertIs(holds(lot, wish), told)

    def test_no_wish(self):
        for value in NO_WISHES:
            self.refuses(InvalidWish, {"given": value}, holds, DOUBLE, value)
            self.refuses(InvalidWish, {"given": value}, holds, wish=value, lot=PURE)
        self.refuses(InvalidWish, {"given": nested(20)}, holds, DOUBLE, nested(20))

    def test_no_lot(self):
        for value in NO_LOTS:
            self.refuses(NotLot, {"given": value}, holds, value, ("step", 1))
            self.refuses(NotLot, {"given": value}, holds, value, None)


class MendsTest(Case):
    def agrees(self, lot, wishes, changes):
        found = mends(lot, wishes, changes)
        self.assertEqual(found, least_sets(lot, wishes, changes))
        self.assertEqual({type(chosen) for chosen in found} | {tuple}, {tuple})

    def test_all_small_sets(self):
        news = [(0, ""), (0, "button 1 0 0"), (0, "button 0 0 2"), (1, ""), (1, "button 0 1 0"), (1, "x"),
                (1, "button 2 3 1")]
        for many in range(4):
            for changes in itertools.product(news, repeat=many):
                for wish in WISHES[1::4]:
                    self.agrees(DOUBLE, (wish,), changes)

    def test_two_wishes(self):
        changes = ((0, "button 1 0 0"), (1, ""), (0, "button 4 0 0"), (1, "button 0 2 0"), (1, "button 0 0 3"), (0, ""))
        for lot in (DOUBLE, LINE, Lot(((2, 0, 0), (0, 2, 0), (0, 0, 2)))):
            for wishes in itertools.product(WISHES, WISHES):
                self.agrees(lot, wishes, changes)

    def test_six_changes_of_many_figures(self):
        lot = Lot(((BIG, 0, 0), (0, BIG, 1), (BIG - 1, 7 ** 35, 5), (2 ** 99, 3 ** 62, 7), (0, 0, BIG)))
        changes = ((0, "button 1 0 0"), (1, f"button 0 {BIG - 3} 0"), (2, f"button {BIG} 0 {BIG}"), (3, ""), (4, ""),
                   (4, f"button 0 0 {6 ** 38}"))
        for wishes in ((("step", 1),), (("misses", "1 0 0"), ("misses", "0 1 0")), (("cosets", 10 ** 40),), (),
                       (("step", 6 ** 38),), (("misses", "0 0 1"),)):
            self.agrees(lot, wishes, changes)

    def test_parts_that_do_not_mend(self):
        changes = ((0, "button 0 0 2"), (1, "button 0 0 4"), (0, "button 0 0 4"), (1, "button 0 0 2"))
        wishes = (("misses", "2 4 1"), ("misses", "3 6 2"))
        self.assertEqual(mends(LINE, wishes, changes), ((0, 1), (0, 3), (1, 2), (2, 3)))
        lot = Lot(((1, 0, 0), (2, 0, 0), (3, 0, 0)))
        changes = ((2, "button 0 1 0"), (1, "button 0 0 0"), (0, ""))
        self.assertEqual(mends(lot, (("misses", "6 0 0"),), changes), ((0, 1, 2),))
        self.assertEqual(mends(lot, (("misses", "1 0 0"),), changes), ((0, 2), (1, 2)))

    def test_a_change_more_may_spoil_the_lot(self):
        lot = Lot(((2, 0, 0), (0, 2, 0)))
        changes = ((0, "button 1 0 0"), (1, "button 0 1 0"))
        self.assertEqual(mends(lot, (("step", 2),), changes), ((0,), (1,)))
        self.assertEqual(mends(lot, (("step", 1),), changes), ((0, 1),))

    def test_the_lot_keeps_its_wishes(self):
        self.assertEqual(mends(DOUBLE, (), ()), ((),))
        self.assertEqual(mends(DOUBLE, (), ((0, ""), (1, ""))), ((),))
        self.assertEqual(mends(DOUBLE, (("step", 6), ("cosets", 36)), ((0, ""), (0, "x"))), ((),))

    def test_nothing_mends(self):
        self.assertEqual(mends(DOUBLE, (("cosets", 0),), ((0, ""), (1, "button 0 1 0"))), ())
        self.assertEqual(mends(DOUBLE, (("step", 5),), ()), ())
        self.assertEqual(mends(DOUBLE, (("misses", "0 0 0"),), ((0, ""), (1, ""))), ())

    def test_nothing_left(self):
        lot = Lot(((1, 0, 0),))
        self.assertEqual(mends(lot, (("misses", "1 0 0"),), ((0, ""), (0, "button 2 0 0"), (0, ""))), ((1,),))
        self.assertEqual(mends(DOUBLE, (("misses", "2 0 0"), ("misses", "0 3 1")), ((0, ""), (1, ""))), ())

    def test_changes_that_are_equal_or_of_one_line(self):
        good = (0, "button 1 0 0")
        wishes = (("makes", "1 0 0"),)
        self.assertEqual(mends(DOUBLE, wishes, (good,) * 6), ((0,), (1,), (2,), (3,), (4,), (5,)))
        self.assertEqual(mends(DOUBLE, wishes, ((0, ""), good, (1, "button 1 0 0"), good)), ((1,), (2,), (3,)))

    def test_six_changes(self):
        lot = Lot(((2, 0, 0), (0, 2, 0), (0, 0, 2), (2, 2, 0), (4, 0, 0)))
        changes = tuple((index, "button 0 0 0") for index in range(5)) + ((4, "button 6 0 0"),)
        for wishes in itertools.combinations(WISHES, 2):
            self.agrees(lot, wishes, changes)
        self.assertEqual(mends(lot, (("cosets", 0),), changes), ())

    def test_equal_results_and_unchanged_lots(self):
        changes = ((0, "button 1 0 0"), (1, "button 0 1 0"))
        for _ in range(2):
            self.assertEqual(mends(DOUBLE, (("step", 1),), changes), ((0, 1),))
            self.assertEqual(mends(DOUBLE, (("step", 2),), changes), ((1,),))
            self.assertEqual(DOUBLE.text, "button 2 0 0\nbutton 0 3 1")


class WrongValuesTest(Case):
    def test_no_lot(self):
        for value in NO_LOTS:
            self.refuses(NotLot, {"given": value}, mends, value, (), ())
            self.refuses(NotLot, {"given": value}, mends, changes=None, wishes=None, lot=value)

    def test_no_wishes(self):
        for value in NOTHING + (0, "", "step", [("step", 1)], {("step", 1): 1}):
            if type(value) is not tuple:
                self.refuses(InvalidWishes, {"index": None}, mends, DOUBLE, value, ())
                self.refuses(InvalidWishes, {"index": None}, mends, DOUBLE, value, None)
        for value in NO_WISHES:
            self.refuses(InvalidWishes, {"index": 0}, mends, DOUBLE, (value,), ())
            self.refuses(InvalidWishes, {"index": 2}, mends, DOUBLE, WISHES[:2] + (value, None), (None,))
            self.refuses(InvalidWishes, {"index": len(WISHES)}, mends, DOUBLE, WISHES + (value,), ())
        self.refuses(InvalidWishes, {"index": 0}, mends, DOUBLE, ("step", 1), ())

    def test_no_changes(self):
        for value in NOTHING + (0, "", [(0, "")], {0: ""}):
            if type(value) is not tuple:
                self.refuses(InvalidChanges, {"index": None}, mends, DOUBLE, (), value)
        wrong = NOTHING + ((), (0,), (0, "", ""), [0, ""], ("", 0), (0, None), (0, 1), (0, "\n"), (0, "a\nb"), (2, ""))
        wrong += tuple((index, "") for index in NO_INTEGERS + (-1, 2, BIG)) + tuple((0, new) for new in NOTHING)
        for value in wrong:
            self.refuses(InvalidChanges, {"index": 0}, mends, DOUBLE, (), (value,))
            self.refuses(InvalidChanges, {"index": 1}, mends, DOUBLE, WISHES, ((1, ""), value, None))
            self.refuses(InvalidChanges, {"index": 5}, mends, DOUBLE, (), ((1, ""),) * 5 + (value, (0, "")))
            self.refuses(InvalidChanges, {"index": 6}, mends, DOUBLE, (), ((1, ""),) * 6 + (value,))

    def test_more_than_six_changes(self):
        self.assertEqual(mends(DOUBLE, (), ((0, ""),) * 6), ((),))
        for more in range(1, 4):
            self.refuses(InvalidChanges, {"index": 6}, mends, DOUBLE, (), ((0, ""),) * (6 + more))
        self.refuses(InvalidChanges, {"index": 3}, mends, DOUBLE, (), ((0, ""),) * 3 + (None,) + ((0, ""),) * 5)

    def test_what_is_passed_is_not_changed(self):
        wishes, changes = [["step", 1]], [[0, ""]]
        self.refuses(InvalidWishes, {"index": 0}, mends, DOUBLE, (wishes[0],), ())
        self.refuses(InvalidChanges, {"index": 0}, mends, DOUBLE, (), (changes[0],))
        self.assertEqual((wishes, changes), ([["step", 1]], [[0, ""]]))


class MakesTest(Case):
    def test_wishes_for_what_is_made(self):
        for move in itertools.product(range(-3, 4), range(-3, 4), range(-3, 4)):
            text = f"{move[0]} {move[1]} {move[2]}"
            self.assertIs(holds(DOUBLE, ("makes", text)), makes(DOUBLE, move))
            self.assertIs(holds(DOUBLE, ("misses", text)), not makes(DOUBLE, move))


if __name__ == "__main__":
    unittest.main()
