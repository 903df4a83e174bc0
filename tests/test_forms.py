import itertools
import unittest
from math import gcd

from arealots import forms
from arealots.errors import InvalidMove, InvalidPlan, NotLot
from arealots.forms import classes, common, cosets, doing, form, makes, moved, needless, plan, same, steady, within
from arealots.lots import Lot
from tests.helper import (
    NO_INTEGERS, NO_LOTS, NO_MOVES, NOTHING, Case, all_remainders, back, depth_of, done_by, groups, in_form, many_times,
    moved_remainders, nested, remainders, swept)

BIG = 10 ** 30
FORTY = 1234567890123456789012345678901234567890
PARAMETERS = {
    "form": ["lot"], "cosets": ["lot"], "steady": ["lot"], "makes": ["lot", "move"], "plan": ["lot", "move"],
    "doing": ["lot", "plan"], "same": ["lot", "other"], "within": ["lot", "other"], "needless": ["lot"],
    "common": ["lot", "other"], "classes": ["lot", "other"], "moved": ["lot", "other"],
}
STEPS = Lot(((1, 0, 0), (0, 1, 0)))
DOUBLE = Lot(((2, 0, 0), (0, 3, 1)))
LINE = Lot(((2, 4, 1), (3, 6, 2)))
SMALL = list(itertools.product((-1, 0, 2), (-2, 0, 1), (0, 1)))
BOX = list(itertools.product(range(-3, 4), range(-3, 4), range(-4, 5)))

MANY_FIGURES = ((BIG - 1, 7 ** 35, 3 ** 62), (2 ** 99, -BIG, 1), (-3 ** 62, 5 ** 42, BIG),
                (10 ** 29 + 7, 2, -7 ** 30), (6 ** 38, -11 ** 28, 0))

# Lots without a north, without an east, with pure moves only, with the steps 0 and 1, with plain buttons.
THIN = tuple(Lot(buttons) for buttons in (
    ((0, 0, 0),), ((0, 0, 0), (0, 0, 0)), ((0, 0, 1),), ((0, 0, -2),), ((0, 0, 4), (0, 0, 6)),
    ((1, 0, 0),), ((1, 0, 1),), ((2, 0, 0),), ((-2, 0, 1),), ((2, 0, 0), (0, 0, 3)), ((3, 0, 1), (0, 0, 2)),
    ((1, 0, 0), (1, 0, 2)), ((1, 0, 0), (0, 0, 1)), ((0, 1, 0),), ((0, 2, 1),), ((0, -2, 0), (0, 0, 4)),
    ((0, 3, 1), (0, 2, 1)), ((0, 1, 0), (0, 0, 1)), ((1, 1, 0),), ((1, 1, 1),), ((1, -1, 0),), ((2, 2, 1),),
    ((2, 4, 1), (3, 6, 2)), ((2, 2, 1), (0, 0, 2)), ((1, 2, 0), (2, 4, 0)), ((2, 1, 0), (-4, -2, 3)),
    ((1, 2, 0), (0, 0, 5), (0, 0, 0)), ((3, 3, 2), (2, 2, 1), (1, 1, 5)),
    ((1, 0, 0), (0, 1, 0)), ((2, 0, 0), (0, 3, 1)), ((2, 0, 0), (0, 2, 0), (0, 0, 2)), ((3, 1, 0), (0, 2, 1)),
    ((2, 1, 1), (1, 2, 1)), ((2, 0, 0), (0, 2, 0)), ((1, 0, 0), (0, 2, 0), (1, 0, 1)),
))


def lots_of(buttons, most):
    """All lots of one to so many of these buttons, but for their order."""
    for many in range(1, most + 1):
        for chosen in itertools.combinations_with_replacement(buttons, many):
            yield Lot(chosen)


def conjugate(move, one):
    return swept(swept(move, one), back(move))


class ExamplesTest(Case):
    def test_examples(self):
        self.follows("""
>>> from arealots.lots import Lot
>>> steps, double, line = Lot(((1, 0, 0), (0, 1, 0))), Lot(((2, 0, 0), (0, 3, 1))), Lot.read("button 2 4 1\\nbutton 3 6 2")
>>> from arealots.forms import classes, common, cosets, doing, form, makes, moved, needless, plan, same, steady, within
>>> [form(steps), form(double), form(line), form(Lot(((0, 0, 6), (0, 0, 4)))), cosets(steps), cosets(double), cosets(line), steady(steps), steady(double)]
[((1, 0, 0), (0, 1, 0), 1), ((2, 0, 0), (0, 3, 1), 6), ((1, 2, 2), (), 5), ((), (), 2), 1, 36, None, True, False]
>>> [makes(double, (2, 3, 1)), makes(double, (2, 3, 2)), makes(double, (4, 0, 1)), makes(steps, (5, -7, 10 ** 30)), makes(line, (10, 20, 0)), doing(steps, ((0, 2), (1, 3))), doing(steps, ((((0, 1), (1, 1)), 2),)), plan(double, (0, 0, 5))]
[True, False, False, True, True, (2, 3, 6), (2, 2, 3), None]
>>> [same(steps, Lot(((1, 0, 7), (0, 1, -3)))), within(double, steps), within(steps, double), needless(Lot(((1, 0, 0), (0, 1, 0), (5, 5, 5)))), common(double, line), common(steps, double) == form(double)]
[True, True, False, (2,), ((6, 12, 22), (), 30), True]
>>> [moved(double, Lot(((2, 0, 2), (0, 3, 1)))) is None, moved(double, Lot(((2, 0, 1), (0, 3, 1)))), steady(Lot(((2, 0, 0), (0, 2, 0), (0, 0, 2)))), classes(double, steps), classes(steps, double), classes(double, line), classes(line, double)]
[False, None, True, 36, 1, 36, None]
>>> doing(steps, ((0, 1), (2, 1)))
raises InvalidPlan(given=((0, 1), (2, 1)))
""")

    def test_interface(self):
        for name, parameters in PARAMETERS.items():
            self.has_parameters(getattr(forms, name), parameters)
            self.assertEqual(getattr(forms, name).__module__, "arealots.forms")

    def test_by_name(self):
        self.assertEqual(form(lot=DOUBLE), ((2, 0, 0), (0, 3, 1), 6))
        self.assertEqual((cosets(lot=DOUBLE), steady(lot=DOUBLE), needless(lot=DOUBLE)), (36, False, ()))
        self.assertIs(makes(move=(2, 3, 1), lot=DOUBLE), True)
        self.assertEqual(doing(plan=plan(move=(2, 3, 1), lot=DOUBLE), lot=DOUBLE), (2, 3, 1))
        self.assertEqual((within(other=STEPS, lot=DOUBLE), same(other=STEPS, lot=DOUBLE)), (True, False))
        self.assertEqual((common(other=STEPS, lot=DOUBLE), classes(other=STEPS, lot=DOUBLE)), (form(DOUBLE), 36))
        self.assertEqual(moved(other=DOUBLE, lot=DOUBLE)[:2], (0, 0))


class FormTest(Case):
    def is_form(self, found):
        """All bounds of the numbers, and that moves of this form, one then the other or undone, are of it again."""
        self.assertEqual((type(found), len(found)), (tuple, 3))
        east, north, step = found
        self.assertIs(type(step), int)
        self.assertGreaterEqual(step, 0)
        for move in (east, north):
            self.assertIs(type(move), tuple)
            self.assertIn(len(move), (0, 3))
            self.assertEqual({type(number) for number in move} | {int}, {int})
            if move and step:
                self.assertIn(move[2], range(step))
        if east:
            self.assertGreater(east[0], 0)
        if north:
            self.assertEqual(north[0], 0)
            self.assertGreater(north[1], 0)
        if east and north:
            self.assertIn(east[1], range(north[1]))
            self.assertGreater(step, 0)
            self.assertEqual(east[0] * north[1] % step, 0)

    def is_form_of(self, lot):
        found = form(lot)
        self.is_form(found)
        for button in lot.buttons:
            self.assertTrue(in_form(found, button))
        for move in [move for move in found[:2] if move] + [(0, 0, found[2])]:
            self.assertEqual(done_by(lot.buttons, plan(lot, move)), move)

    def test_all_small_lots(self):
        # Nothing else is made, as all buttons are of the form; and all of it is made, as there are plans.
        for lot in lots_of(SMALL, 2):
            self.is_form_of(lot)

    def test_three_to_five_buttons(self):
        for chosen in itertools.combinations(SMALL[::2], 3):
            self.is_form_of(Lot(chosen))
        buttons = [(6, 10, 0), (15, -4, 2), (-10, 6, 1), (4, 4, 4), (0, 9, 0), (0, 0, 12), (14, 0, 3), (0, 0, 0)]
        for many in (4, 5):
            for chosen in itertools.permutations(buttons, many):
                if chosen[0] < chosen[-1]:
                    self.is_form_of(Lot(chosen))

    def test_thin_lots(self):
        for lot in THIN:
            self.is_form_of(lot)

    def test_told_forms(self):
        for buttons, told in (
                (((0, 0, 0),), ((), (), 0)), (((0, 0, 0),) * 5, ((), (), 0)), (((0, 0, -7),), ((), (), 7)),
                (((0, 0, 6), (0, 0, -10), (0, 0, 15)), ((), (), 1)), (((-3, 5, 2),), ((3, -5, -17), (), 0)),
                (((0, -2, 5),), ((), (0, 2, -5), 0)), (((0, 4, 1), (0, 6, 1)), ((), (0, 2, 0), 1)),
                (((0, 2, 3), (0, 2, 10)), ((), (0, 2, 3), 7)), (((4, 0, 9), (4, 0, 4)), ((4, 0, 4), (), 5)),
                (((1, 0, 5), (1, 0, 5)), ((1, 0, 5), (), 0)), (((1, 7, 0), (0, 0, 4)), ((1, 7, 0), (), 4)),
                (((1, 5, 0), (0, 2, 0)), ((1, 1, 0), (0, 2, 0), 2)),
                (((3, 0, 0), (0, 5, 0)), ((3, 0, 0), (0, 5, 0), 15)),
                (((3, 0, 0), (0, 5, 0), (0, 0, 10)), ((3, 0, 0), (0, 5, 0), 5)),
                (((BIG, 0, 0), (0, BIG, 0)), ((BIG, 0, 0), (0, BIG, 0), BIG * BIG)),
                (((BIG, 0, 0), (0, BIG, 0), (0, 0, 1)), ((BIG, 0, 0), (0, BIG, 0), 1)),
                (((BIG, BIG, BIG),), ((BIG, BIG, BIG), (), 0)), (((-BIG, 0, BIG),), ((BIG, 0, -BIG), (), 0)),
                (((0, BIG, -BIG),), ((), (0, BIG, -BIG), 0)), (((BIG, 0, 0), (1 - BIG, 0, 0)), ((1, 0, 0), (), 0)),
                (((BIG, 0, 0), (BIG - 1, 0, 1)), ((1, 0, BIG - 1), (), BIG))):
            self.assertEqual(form(Lot(buttons)), told)

    def test_form_does_not_depend_on_the_order_of_buttons(self):
        for lot in lots_of(SMALL[::3], 3):
            for buttons in itertools.permutations(lot.buttons):
                self.assertEqual(form(Lot(buttons)), form(lot))
                self.assertEqual(form(Lot(buttons + (buttons[0], (0, 0, 0)))), form(lot))
                self.assertEqual(form(Lot((back(buttons[0]),) + buttons[1:])), form(lot))

    def test_the_form_by_what_is_made(self):
        for modulus in (2, 3, 4):
            for buttons, made in groups(modulus):
                east, north, step = form(Lot(buttons))
                pure = [s or modulus for x, y, s in made if x == y == 0]
                self.assertEqual(step, min(pure))
                self.assertEqual(north[:2], (0, min(y or modulus for x, y, s in made if x == 0)))
                self.assertIn((0, north[1] % modulus, north[2] % modulus), made)
                self.assertEqual(east[0], min(x or modulus for x, y, s in made))
                self.assertIn(tuple(number % modulus for number in east), made)


class MakesTest(Case):
    def test_all_small_lots(self):
        for lot in list(lots_of(SMALL[::2], 2)) + list(THIN):
            told = form(lot)
            for move in BOX[::3]:
                self.assertIs(makes(lot, move), in_form(told, move))

    def test_all_that_is_made_by_remainders(self):
        for modulus in (2, 3, 4):
            for buttons, made in groups(modulus):
                lot = Lot(buttons)
                for x, y, s in all_remainders(modulus):
                    self.assertIs(makes(lot, (x, y, s)), (x, y, s) in made)
                    self.assertIs(makes(lot, (x - modulus, y + modulus, s - 5 * modulus)), (x, y, s) in made)
                self.assertEqual(cosets(lot), modulus ** 3 // len(made))

    def test_all_that_few_presses_make(self):
        for lot in list(lots_of(SMALL[::2], 2)) + list(THIN):
            made = {(0, 0, 0)}
            for _ in range(3):
                made |= {swept(move, end) for move in made for one in lot.buttons for end in (one, back(one))}
            for move in made:
                self.assertTrue(makes(lot, move))

    def test_one_button_makes_its_multiples_only(self):
        for button in SMALL + [(2, 2, 1), (3, -3, 0), (0, 0, 0), (0, 0, 3)]:
            made = {many_times(button, times) for times in range(-30, 31)}
            for move in BOX:
                self.assertIs(makes(Lot((button,)), move), move in made)

    def test_two_buttons_without_gap(self):
        for one, two in (((2, 4, 1), (3, 6, 2)), ((2, 0, 0), (3, 0, 1)), ((0, 2, 0), (0, 2, 3)), ((1, 1, 0), (0, 0, 3)),
                         ((0, 0, 4), (0, 0, 6)), ((2, -2, 0), (2, -2, 4)), ((0, 0, 0), (1, 1, 1))):
            made = {swept(many_times(one, first), many_times(two, second))
                    for first in range(-40, 41) for second in range(-40, 41)}
            for move in BOX:
                self.assertIs(makes(Lot((one, two)), move), move in made)

    def test_many_figures(self):
        self.assertIs(makes(STEPS, (FORTY, -FORTY, BIG ** 3)), True)
        self.assertIs(makes(DOUBLE, (2 * FORTY, 3, 1 + 6 * FORTY)), True)
        self.assertIs(makes(DOUBLE, (2 * FORTY, 3, 2 + 6 * FORTY)), False)
        self.assertIs(makes(DOUBLE, (2 * FORTY + 1, 3, 1)), False)
        self.assertIs(makes(DOUBLE, (2, 3 * FORTY + 1, 1)), False)
        self.assertIs(makes(Lot(((0, 0, BIG),)), (0, 0, BIG * FORTY)), True)
        self.assertIs(makes(Lot(((0, 0, BIG),)), (0, 0, BIG * FORTY + 1)), False)
        self.assertIs(makes(Lot(((BIG, -BIG, BIG),)), many_times((BIG, -BIG, BIG), FORTY)), True)
        self.assertIs(makes(Lot(((BIG, -BIG, BIG),)), many_times((BIG, -BIG, BIG + 1), FORTY)), False)

    def test_the_plain_move_is_always_made(self):
        for lot in THIN + (STEPS, DOUBLE, LINE):
            self.assertIs(makes(lot, (0, 0, 0)), True)


class PlanTest(Case):
    def test_all_small_lots(self):
        for lot in list(lots_of(SMALL[::2], 2)) + list(THIN):
            for move in BOX[::7]:
                found = plan(lot, move)
                self.assertIs(found is not None, makes(lot, move))
                if found is not None:
                    self.assertEqual(done_by(lot.buttons, found), move)
                    self.assertEqual(doing(lot, found), move)
                    self.assertLessEqual(depth_of(found), 5)

    def test_many_figures(self):
        for many in range(1, 6):
            lot = Lot(MANY_FIGURES[:many])
            for counts in ((1, 0, 2, -1, 0), (FORTY, -1, BIG, 3, -FORTY), (0, 0, 0, 0, 0), (-BIG, BIG, -BIG, BIG, 1)):
                move = (0, 0, 0)
                for button, times in zip(lot.buttons, counts):
                    move = swept(many_times(button, times), move)
                self.assertEqual(done_by(lot.buttons, plan(lot, move)), move)
                other = (move[0], move[1], move[2] + form(lot)[2] * FORTY)
                self.assertEqual(done_by(lot.buttons, plan(lot, other)), other)
                if form(lot)[2] != 1:
                    self.assertIsNone(plan(lot, (move[0], move[1], move[2] + 1)))

    def test_gaps_of_many_figures(self):
        a, b = 1, 1
        while b < BIG // 2:
            a, b = b, a + b
        lot = Lot(((a, b, 0), (b, -a, 5), (0, 0, 2 ** 60), (a, 0, 0), (a + 1, b - 1, 1)))
        for move in ((1, 0, 0), (0, 1, FORTY), (-FORTY, FORTY, 1), (0, 0, 1)):
            self.assertIs(makes(lot, move), plan(lot, move) is not None)
            if makes(lot, move):
                self.assertEqual(done_by(lot.buttons, plan(lot, move)), move)

    def test_what_is_not_made(self):
        self.assertIsNone(plan(DOUBLE, (1, 0, 0)))
        self.assertIsNone(plan(DOUBLE, (0, 1, 0)))
        self.assertIsNone(plan(DOUBLE, (0, 0, FORTY + 1)))
        self.assertIsNone(plan(LINE, (1, 3, 0)))
        self.assertIsNone(plan(Lot(((0, 0, 0),)), (0, 0, 1)))


class DoingTest(Case):
    def test_own_steps(self):
        pairs = [(part, times) for part in (0, 1, (), ((0, 1),), ((1, 2), (0, -1))) for times in (-2, 1, 3)]
        for lot in (STEPS, DOUBLE, LINE, Lot(((1, -2, 3), (0, 0, 1)))):
            for many in range(3):
                for parts in itertools.product(pairs, repeat=many):
                    self.assertEqual(doing(lot, parts), done_by(lot.buttons, parts))

    def test_presses_one_by_one(self):
        for presses in itertools.product((0, 1, 2), repeat=4):
            at = (0, 0, 0)
            for index in presses:
                at = swept(at, ((1, 0, 0), (0, 1, 0), (1, 1, 5))[index])
            lot = Lot(((1, 0, 0), (0, 1, 0), (1, 1, 5)))
            self.assertEqual(doing(lot, tuple((index, 1) for index in presses)), at)

    def test_the_empty_plan(self):
        self.assertEqual(doing(STEPS, ()), (0, 0, 0))
        self.assertEqual(doing(STEPS, (((), 5), ((((), 1),), -FORTY))), (0, 0, 0))

    def test_depth(self):
        told = ((0, 1), (1, 1))
        for depth in range(1, 5):
            self.assertEqual(depth_of(told), depth)
            self.assertEqual(doing(STEPS, told), (1, 1, 1))
            told = ((told, 1),)
        self.assertEqual((depth_of(told), doing(STEPS, told)), (5, (1, 1, 1)))
        told = ((0, 1), (told, 1))
        self.assertEqual(depth_of(told), 6)
        self.refuses(InvalidPlan, {"given": told}, doing, STEPS, told)
        empty = ()
        for _ in range(4):
            empty = ((empty, 1),)
        self.assertEqual(doing(STEPS, empty), (0, 0, 0))
        self.refuses(InvalidPlan, {"given": ((empty, 1),)}, doing, STEPS, ((empty, 1),))

    def test_many_times(self):
        self.assertEqual(doing(STEPS, ((0, BIG), (1, -FORTY))), (BIG, -FORTY, -BIG * FORTY))
        self.assertEqual(doing(STEPS, ((((0, 1), (1, 1)), BIG),)), many_times((1, 1, 1), BIG))

    def test_no_plan(self):
        wrong = NOTHING + (0, 1, "", "plan", (0,), (0, 1), ((0, 1, 1),), ((0,),), ((),), [(0, 1)], ([0, 1],), ((0, 0),),
                           ((2, 1),), ((-1, 1),), ((BIG, 1),), ((0, 1), (2, 1)), ((0, 1), None), (("0", 1),),
                           ((0, "1"),),
                           (((0, 1), 1),), ((((0, 1),), 0),), ((((2, 1),), 1),), ((((0, 0),), 1),), (([(0, 1)], 1),),
                           ((((), 0), 1),), ((0, 1), (0, 1, 1)), ((0, 1), (0, 0)), nested(3), (1, 2, 3))
        wrong += tuple(((0, times),) for times in NO_INTEGERS + (0,))
        wrong += tuple(((part, 1),) for part in NOTHING + ("", "0", 2, -1, (0,), (1, 2, 3)))
        for value in wrong:
            self.refuses(InvalidPlan, {"given": value}, doing, STEPS, value)
            self.refuses(InvalidPlan, {"given": value}, doing, plan=value, lot=STEPS)
            inner = ((0, 1), (value, 1))
            # An integer that is an index is a part by itself.
            if not (type(value) is int and value in (0, 1)):
                self.refuses(InvalidPlan, {"given": inner}, doing, STEPS, inner)

    def test_indexes_of_the_lot(self):
        for many in range(1, 6):
            lot = Lot(((1, 0, 0),) * many)
            self.assertEqual(doing(lot, ((many - 1, 2),)), (2, 0, 0))
            self.refuses(InvalidPlan, {"given": ((many, 2),)}, doing, lot, ((many, 2),))


class SteadyTest(Case):
    def test_by_moving_by_all_moves(self):
        for modulus in (2, 3, 4):
            for buttons, made in groups(modulus):
                told = all(moved_remainders(move, made, modulus) == made for move in all_remainders(modulus))
                self.assertIs(steady(Lot(buttons)), told)

    def test_by_moving_the_buttons(self):
        for lot in list(lots_of(SMALL, 2)) + list(THIN):
            others = [Lot(tuple(conjugate(move, one) for one in lot.buttons)) for move in ((1, 0, 0), (0, 1, 0))]
            self.assertIs(steady(lot), all(form(other) == form(lot) for other in others))

    def test_the_step_zero(self):
        self.assertIs(steady(Lot(((0, 0, 0),))), True)
        self.assertIs(steady(Lot(((1, 0, 0),))), False)
        self.assertIs(steady(Lot(((0, 1, 0),))), False)
        self.assertIs(steady(Lot(((0, 0, 5),))), True)


class CosetsTest(Case):
    def test_no_end(self):
        for lot in THIN:
            east, north, step = form(lot)
            self.assertEqual(cosets(lot), east[0] * north[1] * step if east and north else None)

    def test_told_cosets(self):
        self.assertEqual(cosets(Lot(((BIG, 0, 0), (0, BIG, 0)))), BIG ** 4)
        self.assertEqual(cosets(Lot(((BIG, 0, 0), (0, BIG, 0), (0, 0, 1)))), BIG ** 2)
        self.assertEqual(cosets(Lot(((3, 1, 0), (1, 2, 0)))), 25)
        self.assertIsNone(cosets(Lot(((BIG, 0, 0), (0, 0, 1)))))
        self.assertIsNone(cosets(Lot(((0, 0, 1),))))


class NeedlessTest(Case):
    def test_small_lots(self):
        for lot in list(lots_of(SMALL[::2], 3)) + list(THIN):
            told = []
            for index, button in enumerate(lot.buttons):
                others = lot.buttons[:index] + lot.buttons[index + 1:] + ((0, 0, 0),)
                if in_form(form(Lot(others)), button):
                    told.append(index)
            self.assertEqual(needless(lot), tuple(told))

    def test_told_indexes(self):
        for buttons, told in ((((0, 0, 0),), (0,)), (((1, 0, 0),), ()), (((0, 0, 0), (1, 0, 0)), (0,)),
                              (((1, 0, 0), (1, 0, 0)), (0, 1)), (((1, 0, 0), (-1, 0, 0)), (0, 1)),
                              (((2, 0, 0), (3, 0, 0), (1, 0, 0)), (0, 1, 2)), (((2, 0, 0), (3, 0, 0)), ()),
                              (((0, 0, 0),) * 5, (0, 1, 2, 3, 4)), (((1, 0, 0), (0, 1, 0), (0, 0, 1)), (2,)),
                              (((2, 0, 0), (0, 3, 0), (0, 0, 5), (0, 0, 1)), (2, 3)),
                              (((2, 0, 0), (0, 3, 0), (0, 0, 6)), (2,)),
                              (((0, 0, 2), (0, 0, 3)), ())):
            self.assertEqual(needless(Lot(buttons)), told)
        many_figures = Lot(((BIG, 0, 0), (BIG - 1, 0, 0), (0, 0, BIG), (17, 0, 0), (0, 0, 0)))
        self.assertEqual(needless(many_figures), (0, 1, 3, 4))


class WrongValuesTest(Case):
    def test_no_lot(self):
        for value in NO_LOTS:
            for call in (form, cosets, steady, needless):
                self.refuses(NotLot, {"given": value}, call, value)
                self.refuses(NotLot, {"given": value}, call, lot=value)
            for call in (makes, plan):
                self.refuses(NotLot, {"given": value}, call, value, (0, 0, 0))
                self.refuses(NotLot, {"given": value}, call, value, None)
            self.refuses(NotLot, {"given": value}, doing, value, ())
            self.refuses(NotLot, {"given": value}, doing, value, None)
            for call in (same, within, common, classes, moved):
                self.refuses(NotLot, {"given": value}, call, value, STEPS)
                self.refuses(NotLot, {"given": value}, call, STEPS, value)
                self.refuses(NotLot, {"given": value}, call, other="x", lot=value)
                self.refuses(NotLot, {"given": value}, call, other=value, lot=THIN[0])

    def test_no_move(self):
        for value in NO_MOVES:
            for call in (makes, plan):
                self.refuses(InvalidMove, {"given": value}, call, STEPS, value)
                self.refuses(InvalidMove, {"given": value}, call, move=value, lot=THIN[0])

    def test_results_are_of_the_told_kinds(self):
        for lot, other in itertools.product(THIN[::3], THIN[::4]):
            for found in (makes(lot, (1, 1, 1)), same(lot, other), within(lot, other), steady(lot)):
                self.assertIs(type(found), bool)
            for found in (cosets(lot), classes(lot, other)):
                self.assertIn(type(found), (int, type(None)))
            self.assertIs(type(needless(lot)), tuple)

    def test_equal_results_for_equal_arguments(self):
        for lot in THIN:
            again = Lot.read(lot.text)
            for call in (form, cosets, steady, needless):
                self.assertEqual(call(lot), call(again))
            for move in ((1, 0, 0), (2, 2, 1), (0, 0, 6)):
                self.assertEqual(plan(lot, move), plan(again, move))
                self.assertEqual(makes(lot, move), makes(again, move))
            for call in (common, classes, moved, same, within):
                self.assertEqual(call(lot, DOUBLE), call(again, DOUBLE))
                self.assertEqual(call(DOUBLE, lot), call(DOUBLE, again))


class AskedBeforeTest(Case):
    """Lots keep what most questions rest on: they answer as new ones do, whatever they were asked before."""

    def answers(self, lot, other, backwards):
        moves = BOX[::40]
        asked = [lambda: (form(lot), cosets(lot), steady(lot), needless(lot)),
                 lambda: (common(lot, other), classes(lot, other), moved(lot, other)),
                 lambda: (same(lot, other), within(lot, other), within(other, lot)),
                 lambda: [makes(lot, move) for move in moves], lambda: [plan(lot, move) for move in moves],
                 lambda: doing(lot, ((0, 2), (((0, 1),), -3))), lambda: (lot.buttons, lot.text, repr(lot), len(lot))]
        if backwards:
            return [ask() for ask in asked[::-1]][::-1]
        return [ask() for ask in asked]

    def test_lots_that_were_asked_before(self):
        lots = THIN + tuple(Lot(MANY_FIGURES[:many]) for many in (2, 3, 5))
        for lot, other in itertools.product(lots, (DOUBLE, LINE, lots[-1])):
            before = dict(vars(lot)), dict(vars(other))
            found = self.answers(lot, other, False)
            self.assertEqual((vars(lot), vars(other)), before)
            for _ in range(2):
                self.assertEqual(self.answers(lot, other, True), found)
            self.assertEqual(self.answers(Lot.read(lot.text), Lot(other.buttons), True), found)
            self.assertEqual(self.answers(lot.changed(()), other, False), found)

    def test_long_series(self):
        for buttons in (((2, 0, 0), (0, 3, 1), (4, 6, 2), (0, 0, 12), (6, 3, 5)), MANY_FIGURES):
            lot = Lot(buttons)
            told = form(lot)
            for number in range(1000):
                move = (6 * number, 4 * number, 3)
                self.assertIs(makes(lot, move), in_form(told, move))
                self.assertIs(makes(Lot(buttons[:1]), many_times(buttons[0], number)), True)
            self.assertEqual(form(lot), form(Lot(buttons[::-1])))


class GapTest(Case):
    def test_the_step_of_two_buttons_divides_their_gap(self):
        for one, two in itertools.product(SMALL, SMALL):
            gap = one[0] * two[1] - one[1] * two[0]
            step = form(Lot((one, two)))[2]
            self.assertEqual(gcd(step, gap), step)
            if gap:
                self.assertEqual(cosets(Lot((one, two))), abs(gap) * step)

    def test_remainders_of_lots(self):
        for buttons in itertools.combinations(SMALL, 2):
            told = form(Lot(buttons))
            ends = [move for move in told[:2] if move] + [(0, 0, told[2])]
            self.assertEqual(remainders(buttons, 5), remainders(ends, 5))


if __name__ == "__main__":
    unittest.main()
