import inspect
import itertools
import unittest
from math import gcd

from arealots import moves
from arealots.errors import InvalidMove, InvalidMoves, InvalidNumber, InvalidText
from arealots.moves import after, alike, commute, gap, move_text, often, read_move, root, then, undone
from tests.helper import NO_INTEGERS, NO_MOVES, NOTHING, Case, Strange

BIG = 10 ** 30
FORTY = 1234567890123456789012345678901234567890
PARAMETERS = {
    "move_text": ["move"], "read_move": ["text"], "then": ["move", "second"], "undone": ["move"],
    "often": ["move", "times"], "after": ["moves"], "gap": ["move", "second"], "commute": ["move", "second"],
    "alike": ["move", "second"], "root": ["move", "times"],
}


def some_moves(most, area):
    return list(itertools.product(range(-most, most + 1), range(-most, most + 1), range(-area, area + 1)))


def by_steps(move, times):
    """The move done so many times, one after the other."""
    if times < 0:
        move = (-move[0], -move[1], move[0] * move[1] - move[2])
    x = y = s = 0
    for _ in range(abs(times)):
        x, y, s = x + move[0], y + move[1], s + move[2] + x * move[1]
    return (x, y, s)


class ExamplesTest(Case):
    def test_examples(self):
        self.follows("""
>>> from arealots.moves import after, alike, commute, gap, move_text, often, read_move, root, then, undone
>>> [then((1, 0, 0), (0, 1, 0)), then((0, 1, 0), (1, 0, 0)), undone((1, 1, 1)), often((1, 1, 1), 3), often((1, 1, 1), -1), often((1, 0, 5), 10 ** 30)[2], after(()), move_text((3, -4, 12)), read_move("0 0 -7")]
[(1, 1, 1), (1, 1, 0), (-1, -1, 0), (3, 3, 6), (-1, -1, 0), 5000000000000000000000000000000, (0, 0, 0), '3 -4 12', (0, 0, -7)]
>>> [gap((1, 0, 0), (0, 1, 9)), commute((2, 4, 1), (1, 2, 9)), alike((2, 4, 1), (2, 4, 3)) is None, alike((2, 4, 1), (2, 4, 2)), root((3, 3, 6), 3), root((2, 0, 1), 2), root((0, 0, 4), 2)]
[1, True, False, None, (1, 1, 1), None, (0, 0, 2)]
>>> then((1, 0, 0), (1, 0))
raises InvalidMove(given=(1, 0))
""")

    def test_parameters_by_position_and_by_name(self):
        for name, parameters in PARAMETERS.items():
            found = inspect.signature(getattr(moves, name)).parameters.values()
            self.assertEqual([parameter.name for parameter in found], parameters)
            self.assertEqual({parameter.kind for parameter in found}, {inspect.Parameter.POSITIONAL_OR_KEYWORD})
            self.assertEqual(getattr(moves, name).__module__, "arealots.moves")
        self.assertEqual(then(second=(0, 1, 0), move=(1, 0, 0)), (1, 1, 1))
        self.assertEqual(often(times=2, move=(1, 1, 0)), (2, 2, 1))
        self.assertEqual(root(times=2, move=(2, 2, 1)), (1, 1, 0))
        self.assertEqual(gap(second=(0, 1, 0), move=(1, 0, 0)), 1)
        self.assertEqual(read_move(text=move_text(move=(1, 2, 3))), (1, 2, 3))
        self.assertEqual(after(moves=((1, 2, 3),)), (1, 2, 3))


class TextsTest(Case):
    def test_texts(self):
        for move, text in (((0, 0, 0), "0 0 0"), ((-1, 10, -100), "-1 10 -100"), ((9, -9, 0), "9 -9 0"),
                           ((BIG, -BIG, FORTY), "1" + 30 * "0" + " -1" + 30 * "0" + f" {FORTY}"),
                           ((10 ** 64, 10 ** 64 - 1, -10 ** 64), f"1{64 * '0'} {64 * '9'} -1{64 * '0'}"),
                           ((10 ** 99 + 7, 0, 10 ** 70 * 3), f"1{98 * '0'}7 0 3{70 * '0'}")):
            self.assertEqual(move_text(move), text)
            self.assertEqual(read_move(text), move)
            self.assertEqual([type(number) for number in read_move(text)], [int] * 3)

    def test_texts_of_small_moves(self):
        for move in some_moves(4, 12):
            self.assertEqual(move_text(move), f"{move[0]} {move[1]} {move[2]}")
            self.assertEqual(read_move(move_text(move)), move)

    def test_texts_of_moves_that_have_grown(self):
        # Each time here gives numbers three times as long; Python's own str stops at 4300 digits.
        move = (10 ** 99, 10 ** 99, 0)
        for _ in range(4):
            move = often(move, move[0])
        self.assertEqual(move[0], 10 ** 1584)
        move = often((1, 1, 0), often(move, move[0] * move[0])[0])
        text = move_text(move)
        self.assertEqual(text.partition(" ")[0], "1" + 4752 * "0")
        self.assertEqual(text.count("9"), 4752 - 1)
        self.assertEqual(text.rpartition(" ")[2], "4" + 4751 * "9" + "5" + 4751 * "0")
        self.assertEqual(move_text((-move[0], 0, 0)), "-1" + 4752 * "0" + " 0 0")

    def test_texts_up_to_four_thousand_signs(self):
        text = f"{1300 * '7'} -{1300 * '8'} {1300 * '9'}"
        self.assertEqual(move_text(read_move(text)), text)

    def test_no_texts(self):
        for text in ("", " ", "1", "1 2", "1 2 3 4", " 1 2 3", "1 2 3 ", "1  2 3", "1 2  3", "1\n2 3", "1 2 3\n", "\n",
                     "1,2,3", "(1, 2, 3)", "a b c", "1 2 x", "+1 2 3", "-0 0 0", "0 -0 0", "0 0 -0", "01 2 3",
                     "1 02 3", "1 2 -03", "00 0 0", "1 2 --3", "- 2 3", "1 - 3", "1 2 -", "1 -2- 3", "1 2 3-", "1 2 3.0",
                     "1 2 1e3", "1_0 2 3", "0x1 2 3", "1 2 3\t", "1 2 \u0663", "1 2 \u00b2", "1 2 \uff13", "True 0 0",
                     "1\u00a02 3", "button 1 2 3", "move", "1 2 3;", "-", "- - -", "  ", "1 2 "):
            self.refuses(InvalidText, {"given": text}, read_move, text)

    def test_no_strings(self):
        for value in NOTHING + ((), (1, 2, 3), 0, 1):
            self.refuses(InvalidText, {"given": value}, read_move, value)
            self.refuses(InvalidText, {"given": value}, read_move, text=value)


class SumsTest(Case):
    def test_one_then_the_other(self):
        some = some_moves(2, 1)
        for (x, y, s), (u, v, t) in itertools.product(some, some):
            self.assertEqual(then((x, y, s), (u, v, t)), (x + u, y + v, s + t + x * v))
        self.assertEqual(then((BIG, -1, FORTY), (1, BIG, 1)), (BIG + 1, BIG - 1, FORTY + 1 + 10 ** 60))

    def test_then_is_the_same_however_it_is_grouped(self):
        some = some_moves(1, 1)
        for first, second, third in itertools.product(some, some, some):
            self.assertEqual(then(then(first, second), third), then(first, then(second, third)))

    def test_undone(self):
        for move in some_moves(3, 3) + [(BIG, 7 - BIG, FORTY)]:
            self.assertEqual(undone(move), (-move[0], -move[1], move[0] * move[1] - move[2]))
            self.assertEqual(then(undone(move), move), (0, 0, 0))
            self.assertEqual(then(move, undone(move)), (0, 0, 0))

    def test_often(self):
        for move in some_moves(2, 2):
            for times in range(-6, 7):
                self.assertEqual(often(move, times), by_steps(move, times))

    def test_often_with_many_figures(self):
        self.assertEqual(often((1, 1, 0), 10 ** 30), (10 ** 30, 10 ** 30, 10 ** 30 * (10 ** 30 - 1) // 2))
        self.assertEqual(often((2, -3, 5), FORTY), (2 * FORTY, -3 * FORTY, 5 * FORTY - 3 * FORTY * (FORTY - 1)))
        self.assertEqual(often((2, -3, 5), -FORTY), undone(often((2, -3, 5), FORTY)))
        self.assertEqual(often((7, 8, 9), FORTY + 1), then(often((7, 8, 9), FORTY), (7, 8, 9)))
        self.assertEqual(often((FORTY, BIG, -1), 0), (0, 0, 0))
        self.assertEqual(often((FORTY, BIG, -1), 1), (FORTY, BIG, -1))

    def test_after(self):
        self.assertEqual(after(()), (0, 0, 0))
        self.assertEqual(after(((3, -4, 12),)), (3, -4, 12))
        self.assertEqual(after(((1, 0, 0), (0, 1, 0), (-1, 0, 0), (0, -1, 0))), (0, 0, 1))
        some = some_moves(1, 1)
        for (x, y, s), (u, v, t), (a, b, c) in itertools.product(some, some, some[::5]):
            found = after(((x, y, s), (u, v, t), (a, b, c)))
            self.assertEqual(found, (x + u + a, y + v + b, s + t + c + x * v + (x + u) * b))
        self.assertEqual(after(((BIG, 0, 1), (0, BIG, 2)) * 2), (2 * BIG, 2 * BIG, 6 + 3 * 10 ** 60))

    def test_gap(self):
        some = some_moves(2, 1)
        for move, second in itertools.product(some, some):
            x, y, u, v = move[0], move[1], second[0], second[1]
            self.assertEqual(gap(move, second), x * v - u * y)
            self.assertEqual(gap(move, second), then(move, second)[2] - then(second, move)[2])
            self.assertIs(commute(move, second), then(move, second) == then(second, move))
        self.assertEqual(gap((BIG, 1, 5), (-1, FORTY, 6)), BIG * FORTY + 1)
        self.assertIs(commute((BIG, 3 * BIG, 5), (FORTY, 3 * FORTY, 6)), True)
        self.assertIs(commute((BIG, 3 * BIG, 5), (FORTY, 3 * FORTY + 1, 6)), False)

    def test_results_are_of_the_told_kinds(self):
        for found in (then((1, 2, 3), (4, 5, 6)), undone((1, 2, 3)), often((1, 2, 3), 4), after(((1, 2, 3),)),
                      alike((2, 4, 1), (2, 4, 3)), root((3, 3, 6), 3)):
            self.assertEqual((type(found), [type(number) for number in found]), (tuple, [int] * 3))
        self.assertEqual(type(gap((1, 2, 3), (4, 5, 6))), int)


class LikenessTest(Case):
    def likens(self, move, second):
        found = alike(move, second)
        self.assertEqual(type(found), tuple)
        self.assertEqual(after((found, move, undone(found))), second)

    def test_all_small_moves(self):
        for x, y, s in some_moves(4, 1):
            for more in range(-7, 8):
                step = gcd(x, y)
                if (more % step if step else more) == 0:
                    self.likens((x, y, s), (x, y, s + more))
                else:
                    self.assertIsNone(alike((x, y, s), (x, y, s + more)))

    def test_against_all_small_moves_gone_through(self):
        others = [(p, q, 1) for p in range(-8, 9) for q in range(-8, 9)]
        for move in some_moves(2, 1):
            reached = {after((other, move, undone(other))) for other in others}
            for second in some_moves(2, 1):
                self.assertIs(alike(move, second) is not None, second in reached)

    def test_other_steps_are_not_alike(self):
        self.assertIsNone(alike((1, 0, 0), (0, 1, 0)))
        self.assertIsNone(alike((1, 2, 3), (1, 3, 3)))
        self.assertIsNone(alike((1, 2, 3), (2, 2, 3)))
        self.assertIsNone(alike((1, 2, 3), (-1, -2, 3)))

    def test_only_the_area(self):
        self.assertIsNone(alike((0, 0, 5), (0, 0, 6)))
        self.likens((0, 0, 5), (0, 0, 5))
        self.likens((0, 0, 0), (0, 0, 0))

    def test_many_figures(self):
        self.likens((BIG, BIG + 1, 0), (BIG, BIG + 1, FORTY))
        self.likens((-6 * FORTY, 4 * BIG, 7), (-6 * FORTY, 4 * BIG, 7 + 2 * gcd(3 * FORTY, 2 * BIG) * BIG))
        self.likens((0, -FORTY, 7), (0, -FORTY, 7 - FORTY * BIG))
        self.assertIsNone(alike((2 * FORTY, 2 * BIG, 0), (2 * FORTY, 2 * BIG, 10 ** 60 + 1)))
        self.assertIsNone(alike((0, BIG, 0), (0, BIG, BIG - 1)))
        self.assertIsNone(alike((BIG, 0, 0), (BIG, 0, 1)))


class RootTest(Case):
    def test_against_all_small_moves_gone_through(self):
        for times in range(1, 5):
            comes = {by_steps(move, times): move for move in some_moves(5, 15)}
            for move in some_moves(4, 6):
                self.assertEqual(root(move, times), comes.get(move))

    def test_root_of_what_was_done_often(self):
        for move in some_moves(3, 3) + [(BIG, -FORTY, 3), (FORTY, 0, -BIG)]:
            for times in (1, 2, 3, 10, 10 ** 30, FORTY):
                x, y, s = often(move, times)
                self.assertEqual(root((x, y, s), times), move)
                if times > 1:
                    self.assertIsNone(root((x + 1, y, s), times))
                    self.assertIsNone(root((x, y - 1, s), times))
                    self.assertIsNone(root((x, y, s + 1), times))

    def test_first_root_and_plain_move(self):
        self.assertEqual(root((3, -4, 12), 1), (3, -4, 12))
        self.assertEqual(root((0, 0, 0), FORTY), (0, 0, 0))
        self.assertIsNone(root((0, 0, 1), FORTY))


class WrongValuesTest(Case):
    def test_no_move(self):
        for value in NO_MOVES:
            self.refuses(InvalidMove, {"given": value}, move_text, value)
            self.refuses(InvalidMove, {"given": value}, undone, move=value)
            for call in (then, gap, commute, alike):
                self.refuses(InvalidMove, {"given": value}, call, value, (0, 0, 0))
                self.refuses(InvalidMove, {"given": value}, call, (1, 2, 3), value)
                self.refuses(InvalidMove, {"given": value}, call, second=None, move=value)
            for call in (often, root):
                self.refuses(InvalidMove, {"given": value}, call, value, 1)

    def test_first_argument_first(self):
        for call in (then, gap, commute, alike):
            self.refuses(InvalidMove, {"given": (1, 2)}, call, (1, 2), (3, 4))
        for call in (often, root):
            self.refuses(InvalidMove, {"given": (1, 2)}, call, (1, 2), None)
            self.refuses(InvalidMove, {"given": None}, call, times=-1, move=None)

    def test_no_times(self):
        for value in NO_INTEGERS:
            self.refuses(InvalidNumber, {"given": value}, often, (1, 2, 3), value)
            self.refuses(InvalidNumber, {"given": value}, root, (1, 2, 3), value)

    def test_times_of_roots_from_one_on(self):
        for times in (0, -1, -2, -10 ** 30):
            self.refuses(InvalidNumber, {"given": times}, root, (0, 0, 0), times)
            self.assertEqual(often((0, 0, 0), times), (0, 0, 0))

    def test_after_no_tuple(self):
        for value in NOTHING + (0, "", "abc"):
            if type(value) != tuple:
                self.refuses(InvalidMoves, {"index": None}, after, value)

    def test_after_no_moves(self):
        for value in NO_MOVES:
            self.refuses(InvalidMoves, {"index": 0}, after, (value,))
            self.refuses(InvalidMoves, {"index": 1}, after, ((1, 2, 3), value, None))
            self.refuses(InvalidMoves, {"index": 3}, after, ((1, 2, 3),) * 3 + (value,))
        self.refuses(InvalidMoves, {"index": 0}, after, (1, 2, 3))

    def test_lists_stay_as_they_are(self):
        move, both = [1, 2, 3], [(1, 2, 3), (4, 5, 6)]
        self.refuses(InvalidMove, {"given": move}, undone, move)
        self.refuses(InvalidMoves, {"index": None}, after, both)
        self.refuses(InvalidMoves, {"index": 1}, after, ((0, 0, 0), move))
        self.assertEqual((move, both), ([1, 2, 3], [(1, 2, 3), (4, 5, 6)]))

    def test_strange_objects_are_not_asked(self):
        strange = Strange()
        self.refuses(InvalidMove, {"given": strange}, undone, strange)
        self.refuses(InvalidMoves, {"index": 1}, after, ((1, 2, 3), strange))


if __name__ == "__main__":
    unittest.main()
