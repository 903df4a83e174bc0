"""What two lots have in common, classes, and moved lots, against own reckonings."""

import itertools
import random
import unittest

from arealots.forms import classes, common, form, makes, moved, same, within
from arealots.lots import Lot
from tests.helper import Case, back, groups, in_form, many_times, moved_remainders, swept
from tests.test_forms import BIG, DOUBLE, FORTY, LINE, MANY_FIGURES, STEPS, THIN

WIDE = list(itertools.product(range(-6, 7), range(-6, 7), range(-6, 7)))


def conjugated(lot, move):
    return Lot(tuple(swept(swept(move, button), back(move)) for button in lot.buttons))


def form_moved(form, move):
    """The form of what is made, moved by the move: only areas change."""
    ends = []
    for end in form[:2]:
        if end:
            x, y, area = swept(swept(move, end), back(move))
            end = (x, y, area % form[2] if form[2] else area)
        ends.append(end)
    return (ends[0], ends[1], form[2])


def lot_of(form):
    """A lot that has the form, if its numbers are small."""
    return Lot(tuple(move for move in form[:2] if move) + ((0, 0, form[2]),))


class RemaindersTest(Case):
    """All pairs of lots that make all moves divided by a small number, by the remainders of what they make."""

    def both(self, modulus, every):
        lots = [(Lot(buttons), made) for buttons, made in groups(modulus)]
        return list(itertools.product(lots, lots))[::every]

    def test_common_parts_and_classes(self):
        for modulus, every in ((2, 1), (3, 1), (4, 2), (6, 41)):
            for (lot, made), (other, other_made) in self.both(modulus, every):
                both = made & other_made
                found = common(lot, other)
                part = lot_of(found)
                self.assertEqual(form(part), found)
                for move in both:
                    self.assertTrue(in_form(found, move))
                # As many cosets as there are classes of remainders: so nothing else is in the common part.
                self.assertEqual(found[0][0] * found[1][1] * found[2] * len(both), modulus ** 3)
                self.assertEqual(classes(lot, other), len(other_made) // len(both))
                self.assertIs(within(lot, other), made <= other_made)
                self.assertIs(same(lot, other), made == other_made)

    def test_moved_lots(self):
        for modulus, every in ((2, 1), (3, 1), (4, 3)):
            places = list(itertools.product(range(modulus), range(modulus), (0,)))
            for (lot, made), (other, other_made) in self.both(modulus, every):
                found = moved(lot, other)
                if found is None:
                    if len(made) == len(other_made):
                        ends = [moved_remainders(move, made, modulus) for move in places]
                        self.assertNotIn(other_made, ends)
                else:
                    self.assertEqual([type(number) for number in found], [int] * 3)
                    self.assertTrue(same(conjugated(lot, found), other))
                    self.assertEqual(moved_remainders(found, made, modulus), other_made)


class ThinLotsTest(Case):
    """All pairs of lots some of which have no north, no east, or no step."""

    def test_common_parts(self):
        for lot, other in itertools.product(THIN, THIN):
            found = common(lot, other)
            forms = form(lot), form(other)
            self.assertEqual(form(lot_of(found)) if any(found) else found, found)
            for move in WIDE[::5]:
                self.assertIs(in_form(found, move), in_form(forms[0], move) and in_form(forms[1], move))
            for move in [move for move in found[:2] if move] + [(0, 0, found[2])]:
                self.assertTrue(makes(lot, move) and makes(other, move))
            self.assertEqual(found, common(other, lot))

    def test_classes_by_counting(self):
        # Of the first multiples of what the other one has, so many are in classes of their own, up to eight.
        for lot, other in itertools.product(THIN, THIN):
            told = form(lot)
            east, north, step = form(other)
            ends = [many_times(east, m) for m in range(8)] if east else [(0, 0, 0)]
            if north:
                ends = [swept(end, many_times(north, n)) for end in ends for n in range(8)]
            ends = [(x, y, s + k * step) for x, y, s in ends for k in (range(30) if step else (0,))]
            apart = []
            for end in ends:
                if not any(in_form(told, swept(back(one), end)) for one in apart):
                    apart.append(end)
                if len(apart) == 8:
                    break
            many = classes(lot, other)
            self.assertEqual(len(apart), 8 if many is None else min(many, 8))

    def test_told_classes(self):
        one, two, three = (Lot(((many, 0, 0),)) for many in (1, 2, 3))
        self.assertEqual((classes(two, one), classes(one, two), classes(two, three), classes(three, one)), (2, 1, 2, 3))
        pure = Lot(((1, 0, 0), (0, 0, 4)))
        self.assertEqual((classes(one, pure), classes(pure, one), classes(pure, two)), (None, 1, 1))
        self.assertEqual(classes(Lot(((0, 0, 6),)), Lot(((0, 0, 4),))), 3)
        self.assertEqual(classes(Lot(((0, 0, 0),)), Lot(((0, 0, 0),))), 1)
        self.assertEqual((classes(STEPS, LINE), classes(LINE, STEPS), classes(one, STEPS)), (1, None, None))
        self.assertEqual(classes(Lot(((1, 0, 0),)), Lot(((1, 0, 1),))), None)
        self.assertEqual(classes(Lot(((BIG, 0, 0), (0, BIG, 0))), STEPS), BIG ** 4)

    def test_what_is_made_alike_and_only_with_the_same_areas(self):
        # Both make all places (x, 0), but never with one area; so only the plain move is left.
        self.assertEqual(common(Lot(((1, 0, 0),)), Lot(((1, 0, 1),))), ((), (), 0))
        self.assertEqual(common(Lot(((1, 0, 0),)), Lot(((1, 0, 1), (0, 0, 3)))), ((3, 0, 0), (), 0))
        self.assertEqual(common(Lot(((1, 0, 0), (0, 0, 4))), Lot(((1, 0, 1), (0, 0, 6)))), ((2, 0, 8), (), 12))
        self.assertEqual(common(Lot(((1, 0, 0),)), Lot(((0, 1, 0),))), ((), (), 0))
        self.assertEqual(common(Lot(((0, 0, BIG),)), Lot(((0, 0, BIG - 1),))), ((), (), BIG * (BIG - 1)))
        self.assertEqual(common(Lot(((BIG, 0, 0),)), Lot(((BIG - 1, 0, 0),))), ((BIG * (BIG - 1), 0, 0), (), 0))
        self.assertEqual(common(Lot(((1, 1, 0),)), Lot(((1, 1, 0), (5, 0, 0)))), ((1, 1, 0), (), 0))
        self.assertEqual(common(Lot(((1, 1, 0), (0, 0, 1))), Lot(((2, 0, 0), (0, 3, 0)))), ((6, 6, 0), (), 6))

    def test_the_whole_is_common(self):
        for lot in THIN + (STEPS, DOUBLE, LINE):
            self.assertEqual(common(lot, lot), form(lot))
            self.assertEqual(common(lot, STEPS), form(lot))
            self.assertEqual(common(STEPS, lot), form(lot))
            self.assertEqual(common(lot, Lot(((0, 0, 0),))), ((), (), 0))
            self.assertEqual((classes(lot, lot), classes(STEPS, lot)), (1, 1))

    def test_moved_lots(self):
        places = [(p, q, 5) for p in range(-6, 7) for q in range(-6, 7)]
        for lot, other in itertools.product(THIN, THIN):
            found = moved(lot, other)
            if found is None:
                self.assertNotIn(form(other), [form(conjugated(lot, move)) for move in places[::3]])
            else:
                self.assertEqual((type(found), [type(number) for number in found]), (tuple, [int] * 3))
                self.assertEqual(form(conjugated(lot, found)), form(other))

    def test_moved_and_found_again(self):
        for lot in THIN + (DOUBLE, LINE, STEPS):
            for move in ((1, 0, 0), (0, 1, 0), (-3, 5, 7), (10 ** 9, -10 ** 10, 1)):
                other = conjugated(lot, move)
                self.assertEqual(form(other), form_moved(form(lot), move))
                self.assertEqual(form_moved(form(lot), moved(lot, other)), form(other))
                self.assertEqual(form_moved(form(other), moved(other, lot)), form(lot))

    def test_told_moved_lots(self):
        self.assertIsNone(moved(Lot(((2, 0, 0),)), Lot(((2, 0, 1),))))
        self.assertIsNone(moved(Lot(((2, 0, 0),)), Lot(((3, 0, 0),))))
        self.assertIsNone(moved(Lot(((0, 0, 1),)), Lot(((0, 0, 2),))))
        self.assertIsNone(moved(Lot(((2, 0, 0),)), Lot(((2, 0, 0), (0, 0, 4)))))
        self.assertIsNone(moved(Lot(((1, 0, 0),)), Lot(((0, 1, 0),))))
        self.assertIsNone(moved(Lot(((2, 1, 0), (0, 2, 0))), Lot(((2, 0, 0), (0, 2, 0)))))
        for lot, other in ((Lot(((2, 0, 0),)), Lot(((2, 0, 6),))), (Lot(((0, 3, 1),)), Lot(((0, 3, -2),))),
                           (Lot(((4, 6, 1),)), Lot(((4, 6, 3),))),
                           (Lot(((2, 0, 0), (0, 0, 3))), Lot(((2, 0, 1), (0, 0, 3)))),
                           (Lot(((BIG, BIG - 1, 0),)), Lot(((BIG, BIG - 1, 12345678901234567890),))),
                           (Lot(((BIG, 0, 0), (0, BIG - 1, 0))), Lot(((BIG, 0, BIG), (0, BIG - 1, 1 - BIG)))),
                           (Lot(((BIG, 7, 0), (0, 7 ** 35, 0), (0, 0, 7 ** 34))), Lot(((BIG, 7, 5), (0, 7 ** 35, 0),
                                                                                      (0, 0, 7 ** 34))))):
            self.assertEqual(form_moved(form(lot), moved(lot, other)), form(other))


def exchanged(lot):
    """The lot with east and north exchanged: what it makes is what the lot makes, exchanged likewise."""
    return Lot(tuple((y, x, x * y - area) for x, y, area in lot.buttons))


def drawn_pairs(many, most):
    """So many pairs of lots of at most so many small buttons, the same ones in each run."""
    drawn = random.Random(9)
    for _ in range(many):
        yield [Lot(tuple((drawn.randint(-6, 6), drawn.randint(-6, 6), drawn.randint(-9, 9))
                         for _ in range(drawn.randint(1, most)))) for _ in range(2)]


def least_pure_area(lot, other):
    """The least area above 0 of a pure move that both make, gone through one by one; 0 if there is none."""
    for area in range(1, form(lot)[2] * form(other)[2] + 1):
        if makes(lot, (0, 0, area)) and makes(other, (0, 0, area)):
            return area
    return 0


class PureMovesTest(Case):
    def test_pure_moves_that_come_of_no_others(self):
        first, other = Lot(((-1, 2, -2), (-2, 0, 0))), Lot(((-1, -2, 5), (5, -6, -32)))
        self.assertTrue(makes(first, (0, 0, 16)) and makes(other, (0, 0, 16)))
        for one, two in ((first, other), (other, first)):
            self.assertEqual(common(one, two), ((1, 18, 2), (0, 64, 4), 16))
        self.assertEqual((classes(first, other), classes(other, first)), (4, 64))
        first, other = exchanged(first), exchanged(other)
        for one, two in ((first, other), (other, first)):
            self.assertEqual(common(one, two), ((2, 25, 4), (0, 32, 4), 16))
        self.assertEqual((classes(first, other), classes(other, first)), (4, 64))

    def test_drawn_lots(self):
        for lot, other in list(drawn_pairs(1500, 2)) + list(drawn_pairs(500, 4)):
            found = common(lot, other)
            self.assertEqual(found[2], least_pure_area(lot, other))
            self.assertEqual(common(other, lot), found)
            self.assertEqual(common(exchanged(lot), exchanged(other))[2], found[2])
            self.assertEqual(classes(exchanged(lot), exchanged(other)), classes(lot, other))
            self.assertEqual(classes(exchanged(other), exchanged(lot)), classes(other, lot))
            if any(found):
                part = lot_of(found)
                self.assertEqual(form(part), found)
                self.assertTrue(within(part, lot) and within(part, other))

    def test_small_lots_of_two_buttons(self):
        buttons = list(itertools.product((-1, 2, 5), (-2, 0, 3), (-2, 1)))
        lots = [Lot(chosen) for chosen in itertools.combinations(buttons, 2)]
        for lot, other in list(itertools.product(lots, lots))[::61]:
            found = common(lot, other)
            self.assertEqual(found[2], least_pure_area(lot, other))
            self.assertEqual(common(exchanged(lot), exchanged(other))[2], found[2])
            self.assertEqual(classes(exchanged(lot), exchanged(other)), classes(lot, other))

    def test_steps_of_many_figures(self):
        one, two = Lot(((BIG, 0, 0), (0, BIG, 0), (0, 0, 6))), Lot(((1, 1, 0), (0, BIG - 1, 0), (0, 0, BIG - 1)))
        self.assertEqual(common(one, two)[2], 2 * (BIG - 1))
        three, four = Lot(((0, 0, BIG),)), Lot(((1, 2, 3), (0, 0, BIG - 1)))
        self.assertEqual((common(three, four), classes(three, four)), (((), (), BIG * (BIG - 1)), None))
        self.assertEqual(classes(four, three), BIG - 1)


class ManyFiguresTest(Case):
    def test_five_buttons_of_thirty_figures(self):
        for one, two in itertools.product(range(1, 6), range(1, 6)):
            lot, other = Lot(MANY_FIGURES[:one]), Lot(MANY_FIGURES[5 - two:])
            found = common(lot, other)
            for move in [move for move in found[:2] if move] + [(0, 0, found[2])]:
                self.assertTrue(makes(lot, move) and makes(other, move))
            whole, part = form(other), found
            if bool(whole[0]) == bool(part[0]) and bool(whole[1]) == bool(part[1]) and bool(whole[2]) == bool(part[2]):
                many = part[2] // whole[2] if whole[2] else 1
                many *= part[0][0] // whole[0][0] if whole[0] else 1
                many *= part[1][1] // whole[1][1] if whole[1] else 1
                self.assertEqual(classes(lot, other), many)
            else:
                self.assertIsNone(classes(lot, other))

    def test_common_parts_of_many_figures(self):
        one, two = Lot(((BIG, 0, 0), (0, 1, 0))), Lot(((1, 0, 0), (0, BIG - 1, 0)))
        self.assertEqual(common(one, two), ((BIG, 0, 0), (0, BIG - 1, 0), BIG * (BIG - 1)))
        self.assertEqual((classes(one, two), classes(two, one)), (BIG ** 2, (BIG - 1) ** 2))
        three = Lot(((0, 0, FORTY // 10 ** 10), (1, 0, 0)))
        self.assertEqual(common(three, Lot(((1, 0, 1),))), ((FORTY // 10 ** 10,) + (0, FORTY // 10 ** 10), (), 0))


if __name__ == "__main__":
    unittest.main()
