import itertools
import re
import unittest

from arealots import checker
from arealots.certificates import certify_alike, certify_made, certify_moved, certify_root, certify_same
from arealots.checker import accepts
from arealots.forms import form, makes
from arealots.lots import Lot
from arealots.moves import alike, root
from tests.helper import NOTHING, Case, Equal, Strange, back, in_form, many_times, nested, swept

BIG = 10 ** 30
MANY_FIGURES = ((BIG - 1, 7 ** 35, 3 ** 62), (2 ** 99, -BIG, 1), (-3 ** 62, 5 ** 42, BIG),
                (10 ** 29 + 7, 2, -7 ** 30), (6 ** 38, -11 ** 28, 0))
STEPS = Lot(((1, 0, 0), (0, 1, 0)))
DOUBLE = Lot(((2, 0, 0), (0, 3, 1)))
LINE = Lot(((2, 4, 1), (3, 6, 2)))
LOTS = (STEPS, DOUBLE, LINE, Lot(((0, 0, 6), (0, 0, 4))), Lot(((0, 0, 0),)), Lot(((3, 2, 1),)), Lot(((0, -2, 1),)),
        Lot(((0, 2, 1), (0, 4, 5))), Lot(((2, 1, 0), (0, 2, 1), (0, 0, 2))), Lot(MANY_FIGURES[:1]),
        Lot(MANY_FIGURES[:2]), Lot(MANY_FIGURES), Lot(((BIG, 0, 0), (BIG, 0, 7 ** 30))))
NUMBER = "(0|-?[1-9][0-9]*)"
BUTTON = re.compile(f"button {NUMBER} {NUMBER} {NUMBER}")


def is_move(value):
    return type(value) is tuple and [type(number) for number in value] == [int, int, int]


def buttons_of(text):
    """The buttons of the lot with this text; None if it is the text of none."""
    if type(text) is not str:
        return None
    found = [BUTTON.fullmatch(line) for line in text.split("\n")]
    if len(found) > 5 or None in found:
        return None
    buttons = [tuple(int(number) for number in line.groups()) for line in found]
    return buttons if max(abs(number) for button in buttons for number in button) <= BIG else None


def end_of(buttons, plan, depth=5):
    """The move of a plan, None if the value is no plan for these buttons."""
    if type(plan) is not tuple or depth == 0:
        return None
    at = (0, 0, 0)
    for pair in plan:
        if type(pair) is not tuple or len(pair) != 2 or type(pair[1]) is not int or pair[1] == 0:
            return None
        if type(pair[0]) is int:
            move = buttons[pair[0]] if 0 <= pair[0] < len(buttons) else None
        else:
            move = end_of(buttons, pair[0], depth - 1)
        if move is None:
            return None
        at = swept(at, many_times(move, pair[1]))
    return at


def moved(move, one):
    return swept(swept(move, one), back(move))


def has_bounds(form):
    """Whether the value is a triple with all that the document tells of the numbers of a form."""
    if type(form) is not tuple or len(form) != 3 or type(form[2]) is not int or form[2] < 0:
        return False
    east, north, step = form
    for end in (east, north):
        if not is_move(end) and not (type(end) is tuple and len(end) == 0):
            return False
        if end and step and end[2] not in range(step):
            return False
    if east and east[0] < 1 or north and (north[0] != 0 or north[1] < 1):
        return False
    if east and north:
        return east[1] in range(north[1]) and step > 0 and (east[0] * north[1]) % step == 0
    return True


def is_shown(claim, certificate):
    """What the checker has to answer, by the words of the document."""
    if type(claim) is not tuple or len(claim) != 3 or type(claim[0]) is not str:
        return False
    word, first, second = claim
    if word in ("makes", "misses"):
        buttons = buttons_of(first)
        if buttons is None or not is_move(second):
            return False
        if word == "makes":
            return end_of(buttons, certificate) == second
        return has_bounds(certificate) and [in_form(certificate, move) for move in buttons + [second]] == (
            [True] * len(buttons) + [False])
    if word in ("same", "moved"):
        buttons, others = buttons_of(first), buttons_of(second)
        if buttons is None or others is None or type(certificate) is not tuple:
            return False
        if len(certificate) != {"same": 2, "moved": 3}[word] or word == "moved" and not is_move(certificate[0]):
            return False
        move = certificate[0] if word == "moved" else (0, 0, 0)
        plans, other_plans = certificate[-2:]
        if type(plans) is not tuple or type(other_plans) is not tuple:
            return False
        ends = [end_of(buttons, plan) for plan in plans]
        other_ends = [end_of(others, plan) for plan in other_plans]
        return (None not in ends + other_ends and [moved(move, end) for end in ends] == others
                and [moved(back(move), end) for end in other_ends] == buttons)
    if word == "alike":
        return all(is_move(value) for value in (first, second, certificate)) and moved(certificate, first) == second
    if word == "root" and is_move(first) and type(second) is int and second >= 1 and is_move(certificate):
        return many_times(certificate, second) == first
    return False


def with_one_place_otherwise(value):
    """Values that are as this one but for one number, one part or one kind of value at one place."""
    yield from (None, True, False, Equal(), (value,), [value], {"value": value})
    if type(value) is int:
        yield from (value + 1, value - 1, -value, 0, value + BIG, str(value), ())
    elif type(value) is str:
        yield from (value + " ", " " + value, value + "\n", value[1:], value[:-1], value.upper(), value.encode(), "")
        yield from (value.replace("button", "move"), value.replace(" ", "  "), value.replace("\n", " "), 0, ())
        yield from (value.replace(digit, other, 1) for digit, other in ("01", "12", "23", "10"))
        yield from (value + "\n" + value, value + "\nbutton 0 0 0", value + "\nbutton 1 1 1", value.split("\n")[0])
    else:
        yield from (list(value), value + (0,), value + value[-1:], value[:-1], value[1:], value[::-1], (), 0, "")
        yield dict(enumerate(value))
        for at, part in enumerate(value):
            for other in with_one_place_otherwise(part):
                yield value[:at] + (other,) + value[at + 1:]


def good_pairs():
    """Claims with certificates for them, of the program itself, and some that are written out."""
    for lot in LOTS:
        for move in [(0, 0, 0), (2, 3, 1), (1, 0, 0), (0, 0, 1), lot.buttons[-1], (BIG, BIG, BIG)]:
            yield certify_made(lot, move)
        yield certify_made(lot, swept(lot.buttons[0], swept(many_times(lot.buttons[-1], -7), lot.buttons[0])))
        yield certify_same(lot, lot)
        yield certify_same(lot, Lot(lot.buttons[::-1] + lot.buttons[:5 - len(lot)]))
        yield certify_moved(lot, lot)
        smaller = Lot(tuple(tuple(number // 9 for number in button) for button in lot.buttons))
        for by in ((1, 3, 0), (-2, 1, BIG)):
            yield certify_moved(smaller, Lot(tuple(moved(by, button) for button in smaller.buttons)))
    for move in ((2, 4, 1), (0, 0, 3), (-6, 9, 0), (0, 5, 5), (BIG, BIG - 1, 7)):
        for by in ((0, 0, 0), (1, 0, 0), (-3, 7, 2), (BIG, 1 - BIG, 5)):
            yield certify_alike(move, moved(by, move))
        for times in (1, 2, 3, 10, BIG):
            yield certify_root(many_times(move, times), times)
    yield ("makes", STEPS.text, (0, 0, 1)), ((0, 1), (1, 1), (0, -1), (1, -1))
    yield ("makes", STEPS.text, (1, 1, 1)), ((((((((0, 1), (1, 1)), 1),), 1),), 1),)
    yield ("misses", DOUBLE.text, (1, 0, 0)), ((2, 0, 0), (0, 1, 0), 1)
    yield ("misses", LINE.text, (0, 1, 0)), ((1, 2, 0), (), 1)
    yield ("misses", STEPS.text.replace("1", "4"), (2, 0, 0)), ((4, 0, 0), (0, 2, 1), 2)
    yield ("same", "button 0 0 0", "button 0 0 0\nbutton 0 0 0"), (((), ()), ((),))
    yield ("moved", "button 2 0 0", "button 2 0 2"), ((0, -1, 5), (((0, 1),),), (((0, 1),),))
    yield ("alike", (2, 0, 0), (2, 0, 2)), (9, -1, 8)
    yield ("root", (0, 0, 0), BIG), (0, 0, 0)


class ExamplesTest(Case):
    def test_examples(self):
        self.follows("""
>>> from arealots.lots import Lot
>>> from arealots.checker import accepts
>>> steps, double = Lot(((1, 0, 0), (0, 1, 0))), Lot(((2, 0, 0), (0, 3, 1)))
>>> [accepts(("makes", steps.text, (1, 1, 0)), ((1, 1), (0, 1))), accepts(("makes", steps.text, (1, 1, 0)), ((0, 1), (1, 1))), accepts(("misses", double.text, (1, 0, 0)), ((2, 0, 0), (0, 1, 0), 1)), accepts(("misses", double.text, (2, 0, 1)), ((2, 0, 0), (0, 1, 0), 1))]
[True, False, True, False]
""")

    def test_interface(self):
        self.has_parameters(checker.accepts, ["claim", "certificate"])
        self.assertEqual(accepts.__module__, "arealots.checker")
        self.assertIs(accepts(certificate=((0, 1),), claim=("makes", STEPS.text, (1, 0, 0))), True)


class GoodPairsTest(Case):
    def test_good_pairs(self):
        words = [claim[0] for claim, certificate in good_pairs()]
        for word in ("makes", "misses", "same", "moved", "alike", "root"):
            self.assertGreater(words.count(word), 10)
        for claim, certificate in good_pairs():
            self.assertIs(accepts(claim, certificate), True, claim)
            self.assertIs(is_shown(claim, certificate), True, claim)

    def test_one_place_otherwise(self):
        answers = []
        for claim, certificate in good_pairs():
            for other in with_one_place_otherwise(claim):
                told = is_shown(other, certificate)
                self.assertIs(accepts(other, certificate), told, (other, certificate))
                answers.append(told)
            # Plans of many pairs have some thousand places: of these some hundred are enough.
            others = list(with_one_place_otherwise(certificate))
            for other in others[::len(others) // 300 + 1]:
                told = is_shown(claim, other)
                self.assertIs(accepts(claim, other), told, (claim, other))
                answers.append(told)
        # Some are good ones again, as where areas do not matter; most are not.
        self.assertGreater(answers.count(True), 100)
        self.assertGreater(answers.count(False), 5 * answers.count(True))

    def test_claims_and_certificates_of_one_another(self):
        pairs = list(good_pairs())
        claims = [claim for claim, _ in pairs[::3]]
        certificates = [certificate for _, certificate in pairs[::2]]
        for claim, certificate in itertools.product(claims, certificates):
            self.assertIs(accepts(claim, certificate), is_shown(claim, certificate), (claim, certificate))
        for word in ("makes", "misses", "same", "moved", "alike", "root", "", "steps", "Makes"):
            for claim, certificate in pairs:
                other = (word,) + claim[1:]
                self.assertIs(accepts(other, certificate), is_shown(other, certificate), (other, certificate))


class AnyValuesTest(Case):
    VALUES = NOTHING + (0, 1, -1, BIG, "", "makes", "misses", STEPS.text, (), (1, 0, 0), ((0, 1),), ((), (), 0),
                        Equal(), STEPS, nested(19), ("makes",) * 3, [("makes", STEPS.text, (1, 0, 0))])

    def test_any_claims(self):
        for value in self.VALUES:
            for certificate in ((), ((0, 1),), None, (1, 0, 0), Strange()):
                self.assertIs(accepts(value, certificate), False)
        words = ("makes", "misses", "same", "moved", "alike", "root")
        for first, second in itertools.product(self.VALUES, self.VALUES):
            for word in words:
                claim = (word, first, second)
                for certificate in ((), ((0, 1),), (1, 0, 0)):
                    self.assertIs(accepts(claim, certificate), is_shown(claim, certificate))
            self.assertIs(accepts((first, STEPS.text, second), ()), False)
            self.assertIs(accepts((second, (0, 0, 0), (0, 0, 0)), (0, 0, 0)), False)

    def test_any_certificates(self):
        claims = [claim for claim, _ in list(good_pairs())[::5]]
        for claim, value in itertools.product(claims, self.VALUES):
            for certificate in (value, (value,), (value, value), (value, value, value), ((0, value),), ((value, 1),),
                                ((1, 0, 0), (), value), ((1, 0, 0), value, 1), (value, (), 1),
                                (((value, 1),), ((0, 1),)), (value, (((0, 1),),), (((0, 1),),)),
                                ((0, 0, 0), (value,), (((0, 1),),))):
                self.assertIs(accepts(claim, certificate), is_shown(claim, certificate), claim)

    def test_what_is_passed_is_not_changed(self):
        claim, certificate = ["makes", STEPS.text, [1, 0, 0]], [[0, 1]]
        self.assertIs(accepts(claim, certificate), False)
        self.assertIs(accepts(tuple(claim), certificate), False)
        self.assertIs(accepts(("makes", STEPS.text, (1, 0, 0)), certificate), False)
        self.assertEqual((claim, certificate), (["makes", STEPS.text, [1, 0, 0]], [[0, 1]]))


class MakesTest(Case):
    def test_all_short_plans(self):
        pairs = [(part, times) for part in (-1, 0, 1, 2, (), ((0, 1), (1, 1))) for times in (-1, 0, 2)]
        for lot in (STEPS, DOUBLE, Lot(((1, 1, 1),))):
            for parts in itertools.chain.from_iterable(itertools.product(pairs, repeat=many) for many in range(3)):
                told = end_of(lot.buttons, parts)
                for move in {told or (0, 0, 0), (0, 0, 0), (2, 2, 3), (1, 1, 1), (4, 0, 0)}:
                    self.assertIs(accepts(("makes", lot.text, move), parts), told == move)

    def test_depth(self):
        plan = ((0, 1),)
        for depth in range(1, 9):
            self.assertIs(accepts(("makes", STEPS.text, (1, 0, 0)), plan), depth <= 5)
            plan = ((plan, 1),)
        empty = ()
        for depth in range(1, 9):
            self.assertIs(accepts(("makes", STEPS.text, (0, 0, 0)), empty), depth <= 5)
            empty = ((empty, 1),)


class MissesTest(Case):
    def test_all_small_forms(self):
        ends = [()] + list(itertools.product((-1, 0, 1, 2), (-1, 0, 1, 2, 3), (-1, 0, 1, 2)))
        accepted = 0
        for lot in (DOUBLE, LINE, Lot(((0, 0, 2),)), Lot(((2, 0, 0),)), Lot(((0, 3, 0), (0, 0, 3)))):
            for east, north, step in list(itertools.product(ends, ends, range(-1, 4)))[::7]:
                for move in ((1, 0, 0), (0, 1, 0), (0, 0, 1)):
                    claim = ("misses", lot.text, move)
                    told = is_shown(claim, (east, north, step))
                    self.assertIs(accepts(claim, (east, north, step)), told, (east, north, step))
                    accepted += told
                    if told:
                        self.assertIs(makes(lot, move), False)
        self.assertGreater(accepted, 20)

    def test_told_bounds(self):
        claim = ("misses", "button 4 0 0\nbutton 0 4 0", (1, 0, 0))
        for certificate, told in (
                (((4, 0, 0), (0, 4, 0), 16), True), (((2, 0, 0), (0, 2, 0), 4), True),
                (((2, 0, 0), (0, 2, 0), 2), True), (((2, 0, 0), (0, 2, 0), 1), True),
                (((2, 1, 0), (0, 2, 0), 2), True), (((4, 0, 0), (0, 4, 0), 8), True),
                (((4, 0, 0), (0, 4, 0), 0), False), (((4, 0, 0), (0, 4, 0), 32), False),
                (((4, 0, 0), (0, 4, 0), 3), False), (((4, 0, 0), (0, 4, 0), -16), False),
                (((-4, 0, 0), (0, 4, 0), 16), False), (((4, 0, 0), (0, -4, 0), 16), False),
                (((4, 4, 0), (0, 4, 0), 16), False), (((4, -4, 0), (0, 4, 0), 16), False),
                (((4, 0, 16), (0, 4, 0), 16), False), (((4, 0, -16), (0, 4, 0), 16), False),
                (((4, 0, 0), (0, 4, 16), 16), False), (((4, 0, 0), (0, 4, -16), 16), False),
                (((4, 0, 0), (4, 4, 0), 16), False), (((0, 0, 0), (0, 4, 0), 16), False),
                (((4, 0, 0), (0, 0, 0), 16), False), (((4, 0, 0), (), 16), False), (((), (0, 4, 0), 16), False),
                (((1, 0, 0), (0, 4, 0), 4), False), (((4, 0, 1), (0, 4, 0), 16), False), (((), (), 1), False)):
            self.assertIs(accepts(claim, certificate), told, certificate)
        for button, certificate, move, told in (
                ("4 -7 9", ((4, -7, 9), (), 0), (4, -7, 8), True), ("4 -7 9", ((4, -7, 9), (), 0), (4, -7, 9), False),
                ("4 -7 9", ((2, -7, 9), (), 0), (4, -7, 8), False), ("4 -7 9", ((4, -7, 9), (), 9), (4, -7, 8), False),
                ("4 -7 9", ((4, -7, 4), (), 5), (4, -7, 8), True), ("4 -7 9", ((4, -7, 4), (), 5), (0, 0, 5), False),
                ("0 3 -2", ((), (0, 3, -2), 0), (0, 6, 0), True), ("0 3 -2", ((), (0, -3, 2), 0), (0, 6, 0), False),
                ("0 3 -2", ((), (0, 3, 1), 3), (0, 6, -1), False), ("0 3 -2", ((), (0, 3, 1), 3), (0, 6, 0), True),
                ("0 0 0", ((), (), 0), (0, 0, 1), True), ("0 0 0", ((), (), 0), (0, 0, 0), False),
                ("0 0 6", ((), (), 3), (0, 0, 4), True), ("0 0 6", ((), (), 4), (0, 0, 1), False)):
            self.assertIs(accepts(("misses", "button " + button, move), certificate), told, (button, certificate))

    def test_a_move_that_is_made_is_never_shown_to_be_missed(self):
        for lot in LOTS:
            certificates = [form(other) for other in LOTS] + [((1, 0, 0), (0, 1, 0), 1), ((), (), 0), ((), (), 1)]
            for certificate in certificates:
                for move in lot.buttons + ((0, 0, 0), (0, 0, form(lot)[2])):
                    self.assertIs(accepts(("misses", lot.text, move), certificate), False)


class AlikeAndRootTest(Case):
    def test_all_small_moves(self):
        moves = list(itertools.product((-2, 0, 1, 4), (-3, 0, 2), (-1, 0, 5)))
        for move, second in itertools.product(moves, moves):
            shown = [by for by in moves if accepts(("alike", move, second), by)]
            self.assertEqual(shown, [by for by in moves if moved(by, move) == second])
            if shown:
                self.assertIsNotNone(alike(move, second))
        for move, times in itertools.product(moves, (-2, -1, 0, 1, 2, 3, True)):
            shown = [one for one in moves if accepts(("root", move, times), one)]
            good = type(times) is int and times > 0
            self.assertEqual(shown, [one for one in moves if good and many_times(one, times) == move])
            if shown:
                self.assertEqual(shown, [root(move, times)])


if __name__ == "__main__":
    unittest.main()
