import itertools
import unittest

from arealots import certificates
from arealots.certificates import certify_alike, certify_made, certify_moved, certify_root, certify_same
from arealots.checker import accepts
from arealots.errors import InvalidMove, InvalidNumber, NotLot
from arealots.forms import form, makes, moved, same
from arealots.lots import Lot
from arealots.moves import alike, root
from tests.helper import NO_INTEGERS, NO_LOTS, NO_MOVES, Case, back, groups, many_times, swept
from tests.test_checker import is_shown
from tests.test_forms import BIG, BOX, DOUBLE, FORTY, LINE, MANY_FIGURES, SMALL, STEPS, THIN, lots_of

PARAMETERS = {"certify_made": ["lot", "move"], "certify_same": ["lot", "other"], "certify_moved": ["lot", "other"],
              "certify_alike": ["move", "second"], "certify_root": ["move", "times"]}


def conjugated(lot, move):
    return Lot(tuple(swept(swept(move, button), back(move)) for button in lot.buttons))


class CertificateCase(Case):
    def is_certified(self, found, claim):
        """The claim is the told one, and the certificate is one for it."""
        self.assertEqual((type(found), len(found)), (tuple, 2))
        self.assertEqual(found[0], claim)
        self.assertEqual([type(part) for part in found[0]], [type(part) for part in claim])
        self.assertIs(accepts(found[0], found[1]), True, found)
        self.assertIs(is_shown(found[0], found[1]), True, found)


class ExamplesTest(CertificateCase):
    def test_examples(self):
        self.follows("""
>>> from arealots.lots import Lot
>>> steps, double, line = Lot(((1, 0, 0), (0, 1, 0))), Lot(((2, 0, 0), (0, 3, 1))), Lot.read("button 2 4 1\\nbutton 3 6 2")
>>> from arealots.certificates import certify_alike, certify_made, certify_moved, certify_root, certify_same
>>> from arealots.checker import accepts
>>> found = (certify_made(double, (2, 3, 1)), certify_made(double, (2, 3, 2)), certify_same(steps, Lot(((1, 0, 7), (0, 1, -3)))), certify_moved(double, Lot(((2, 0, 2), (0, 3, 1)))), certify_alike((2, 4, 1), (2, 4, 3)), certify_root((3, 3, 6), 3))
>>> [[accepts(*pair) for pair in found], [pair[0][0] for pair in found], found[5][1], certify_root((2, 0, 1), 2), certify_same(steps, double)]
[[True, True, True, True, True, True], ['makes', 'misses', 'same', 'moved', 'alike', 'root'], (1, 1, 1), None, None]
>>> [accepts(("makes", steps.text, (1, 1, 0)), ((1, 1), (0, 1))), accepts(("makes", steps.text, (1, 1, 0)), ((0, 1), (1, 1))), accepts(("misses", double.text, (1, 0, 0)), ((2, 0, 0), (0, 1, 0), 1)), accepts(("misses", double.text, (2, 0, 1)), ((2, 0, 0), (0, 1, 0), 1))]
[True, False, True, False]
""")

    def test_interface(self):
        for name, parameters in PARAMETERS.items():
            self.has_parameters(getattr(certificates, name), parameters)
            self.assertEqual(getattr(certificates, name).__module__, "arealots.certificates")

    def test_by_name(self):
        self.is_certified(certify_made(move=(1, 0, 0), lot=DOUBLE), ("misses", DOUBLE.text, (1, 0, 0)))
        self.is_certified(certify_same(other=STEPS, lot=STEPS), ("same", STEPS.text, STEPS.text))
        self.is_certified(certify_moved(other=LINE, lot=LINE), ("moved", LINE.text, LINE.text))
        self.is_certified(certify_alike(second=(1, 0, 5), move=(1, 0, 0)), ("alike", (1, 0, 0), (1, 0, 5)))
        self.is_certified(certify_root(times=2, move=(2, 0, 0)), ("root", (2, 0, 0), 2))


class MadeTest(CertificateCase):
    def agrees(self, lot, move):
        word = "makes" if makes(lot, move) else "misses"
        self.is_certified(certify_made(lot, move), (word, lot.text, move))

    def test_small_lots(self):
        for lot in list(lots_of(SMALL[::2], 2)) + list(THIN):
            for move in BOX[::9]:
                self.agrees(lot, move)

    def test_lots_of_all_remainders(self):
        for modulus in (2, 3):
            for buttons, _ in groups(modulus):
                for move in itertools.product(range(modulus), repeat=3):
                    self.agrees(Lot(buttons), move)

    def test_many_figures(self):
        for many in range(1, 6):
            lot = Lot(MANY_FIGURES[:many])
            at = (0, 0, 0)
            for button in lot.buttons:
                at = swept(at, many_times(button, FORTY))
                for more in (0, 1, form(lot)[2], form(lot)[2] * FORTY + 1):
                    self.agrees(lot, (at[0], at[1], at[2] + more))
                self.agrees(lot, (at[0] + 1, at[1], at[2]))
        for lot in (STEPS, DOUBLE, LINE):
            for move in ((FORTY, FORTY, FORTY), (2 * FORTY, 3, FORTY), (BIG, 2 * BIG, BIG), (0, 0, 5 * FORTY)):
                self.agrees(lot, move)


class SameTest(CertificateCase):
    def agrees(self, lot, other):
        found = certify_same(lot, other)
        if same(lot, other):
            self.is_certified(found, ("same", lot.text, other.text))
        else:
            self.assertIsNone(found)

    def test_thin_lots(self):
        for lot, other in itertools.product(THIN, THIN):
            self.agrees(lot, other)

    def test_lots_of_all_remainders(self):
        lots = [Lot(buttons) for modulus in (2, 4) for buttons, _ in groups(modulus)]
        for lot, other in list(itertools.product(lots, lots))[::5]:
            self.agrees(lot, other)

    def test_other_buttons_for_the_same(self):
        for lot in list(lots_of(SMALL[::3], 2)) + list(THIN):
            told = form(lot)
            ends = tuple(move for move in told[:2] if move) + ((0, 0, told[2]),)
            for other in (Lot(ends), Lot(lot.buttons[::-1]), Lot(tuple(back(one) for one in lot.buttons)),
                          Lot(ends[:1] + tuple(swept(ends[0], one) for one in ends)), Lot(lot.buttons + ((0, 0, 0),))):
                self.assertIsNotNone(certify_same(lot, other))
                self.agrees(lot, other)
                self.agrees(other, lot)

    def test_many_figures(self):
        for many in range(1, 6):
            lot = Lot(MANY_FIGURES[:many])
            other = Lot(lot.buttons[::-1] + lot.buttons[:5 - many])
            self.assertIsNotNone(certify_same(lot, other))
            self.agrees(lot, other)
            self.agrees(lot, Lot(MANY_FIGURES[1:]))
        self.agrees(Lot(((BIG, 0, 0), (0, BIG, 0))), Lot(((BIG, 0, 0), (BIG, BIG, 0))))
        self.agrees(Lot(((BIG, 0, 0), (BIG - 1, 0, 0))), Lot(((1, 0, 0),)))


class MovedTest(CertificateCase):
    def agrees(self, lot, other):
        found = certify_moved(lot, other)
        if moved(lot, other) is None:
            self.assertIsNone(found)
        else:
            self.is_certified(found, ("moved", lot.text, other.text))

    def test_thin_lots(self):
        for lot, other in itertools.product(THIN, THIN):
            self.agrees(lot, other)

    def test_moved_lots(self):
        for lot in list(lots_of(SMALL[::3], 2)) + list(THIN) + [DOUBLE, LINE, STEPS]:
            for move in ((0, 0, 0), (1, 0, 0), (-2, 5, 3), (10 ** 12, 1 - 10 ** 13, 1)):
                other = conjugated(lot, move)
                self.assertIsNotNone(certify_moved(lot, other))
                self.agrees(lot, other)
                self.agrees(other, lot)

    def test_many_figures(self):
        for many in range(1, 6):
            lot = Lot(tuple(tuple(number // 9 for number in button) for button in MANY_FIGURES[:many]))
            for move in ((1, 3, 0), (-2, 2, BIG), (0, -1, 1)):
                other = conjugated(lot, move)
                self.assertIsNotNone(certify_moved(lot, other))
                self.agrees(lot, other)
                self.agrees(other, lot)
            self.agrees(lot, STEPS)


class AlikeTest(CertificateCase):
    def test_small_moves(self):
        for move, second in itertools.product(BOX[::7], BOX[::5]):
            found = certify_alike(move, second)
            if alike(move, second) is None:
                self.assertIsNone(found)
            else:
                self.is_certified(found, ("alike", move, second))

    def test_many_figures(self):
        move = (BIG, BIG - 1, 7)
        self.is_certified(certify_alike(move, (BIG, BIG - 1, FORTY)), ("alike", move, (BIG, BIG - 1, FORTY)))
        self.assertIsNone(certify_alike((BIG, 2 * BIG, 0), (BIG, 2 * BIG, BIG + 1)))


class RootTest(CertificateCase):
    def test_small_moves(self):
        for move, times in itertools.product(BOX[::3] + [(4, 6, 15), (6, 6, 15)], range(1, 7)):
            found = certify_root(move, times)
            if root(move, times) is None:
                self.assertIsNone(found)
            else:
                self.is_certified(found, ("root", move, times))
                self.assertEqual(found[1], root(move, times))

    def test_many_figures(self):
        for one in MANY_FIGURES:
            for times in (1, 2, BIG, FORTY):
                move = many_times(one, times)
                self.is_certified(certify_root(move, times), ("root", move, times))
                self.assertEqual(certify_root(move, times)[1], one)
                self.assertEqual(certify_root((move[0], move[1], move[2] + 1), times) is None, times != 1)


class WrongValuesTest(CertificateCase):
    def test_no_lot(self):
        for value in NO_LOTS:
            self.refuses(NotLot, {"given": value}, certify_made, value, None)
            self.refuses(NotLot, {"given": value}, certify_made, move=(0, 0, 0), lot=value)
            for call in (certify_same, certify_moved):
                self.refuses(NotLot, {"given": value}, call, value, STEPS)
                self.refuses(NotLot, {"given": value}, call, STEPS, value)
                self.refuses(NotLot, {"given": value}, call, other=None, lot=value)
                self.refuses(NotLot, {"given": value}, call, other=value, lot=LINE)

    def test_no_move(self):
        for value in NO_MOVES:
            self.refuses(InvalidMove, {"given": value}, certify_made, STEPS, value)
            for call in (certify_alike, certify_root):
                self.refuses(InvalidMove, {"given": value}, call, value, 0)
            self.refuses(InvalidMove, {"given": value}, certify_alike, (0, 0, 0), value)
            self.refuses(InvalidMove, {"given": value}, certify_alike, second=value, move=(1, 0, 0))

    def test_no_number(self):
        for value in NO_INTEGERS + (0, -1, -BIG):
            self.refuses(InvalidNumber, {"given": value}, certify_root, (0, 0, 0), value)
            self.refuses(InvalidNumber, {"given": value}, certify_root, times=value, move=(2, 0, 1))


if __name__ == "__main__":
    unittest.main()
