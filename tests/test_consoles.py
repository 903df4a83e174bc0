import inspect
import itertools
import random
import re
import unittest

from arealots.consoles import Console, is_name
from arealots.forms import cosets, form, makes
from arealots.lots import Lot
from arealots.moves import after, alike, gap, move_text
from tests.helper import NOTHING, Case, Equal

BIG = 10 ** 30
MOVE = re.compile(r"(0|-?[1-9][0-9]*) (0|-?[1-9][0-9]*) (0|-?[1-9][0-9]*)")
NAME = re.compile(r"[a-z][a-z0-9]{0,7}")
PUT = re.compile(r"move ([^ ]+) (.+)", re.DOTALL)
SHAPES = [re.compile(shape) for shape in (
    r"(drop|show) ([^ ]+)", r"(then|cosets|step) ([^ ]+(?: [^ ]+)*)", r"(gap|alike) ([^ ]+ [^ ]+)",
    r"(made) ([^ ]+(?: [^ ]+)+)")]
MOVES = {"a": (2, 0, 0), "b": (0, 3, 1), "c9": (-4, 6, 5), "zero": (0, 0, 0), "pure": (0, 0, -7), "long5678": (2, 4, 1),
         "wide": (BIG + 1, 0, 0), "like": (-4, 6, 3), "edge": (BIG, -BIG, BIG)}


class Table:
    """What a console has to answer, by a table of moves that is copied ahead of each change."""

    def __init__(self):
        self.moves = {}
        self.past = []

    def answer(self, line):
        if line == "undo":
            if not self.past:
                return "nothing"
            self.moves = self.past.pop()
            return "undone"
        put = PUT.fullmatch(line)
        if put:
            return self.put(*put.groups())
        for shape in SHAPES:
            found = shape.fullmatch(line)
            if found:
                return self.answer_for(found.group(1), found.group(2).split(" "))
        return "no such line"

    def put(self, name, text):
        if not NAME.fullmatch(name):
            return "no name"
        move = MOVE.fullmatch(text)
        if not move:
            return "no move"
        self.past.append(dict(self.moves))
        self.moves[name] = tuple(int(number) for number in move.groups())
        return "put"

    def answer_for(self, word, names):
        if not set(names) <= set(self.moves):
            return "no such move"
        if word == "drop":
            self.past.append(dict(self.moves))
            del self.moves[names[0]]
            return "dropped"
        moves = [self.moves[name] for name in names]
        if word in ("made", "cosets", "step"):
            buttons = tuple(moves[word == "made":])
            if len(buttons) > 5 or max(abs(number) for button in buttons for number in button) > BIG:
                return "no lot"
            lot = Lot(buttons)
            if word == "made":
                return "yes" if makes(lot, moves[0]) else "no"
            many = cosets(lot) if word == "cosets" else form(lot)[2]
            return "endless" if many is None else str(many)
        if word in ("show", "then"):
            return move_text(after(tuple(moves)))
        return str(gap(*moves)) if word == "gap" else "no" if alike(*moves) is None else "yes"


class ConsoleCase(Case):
    def agrees(self, console, table, line):
        found = console.do(line)
        self.assertEqual((type(found), found), (str, table.answer(line)), line)
        self.assertEqual(console.names, tuple(sorted(table.moves)), line)

    def both(self):
        """A console and a table with the same moves."""
        console, table = Console(), Table()
        for name, move in MOVES.items():
            self.agrees(console, table, f"move {name} {move[0]} {move[1]} {move[2]}")
        return console, table


class ExamplesTest(ConsoleCase):
    def test_examples(self):
        self.follows("""
>>> from arealots.consoles import Console
>>> console = Console()
>>> [console.do("move a 2 0 0"), console.do("move b 0 3 1"), console.do("then a b"), console.do("gap a b"), console.do("cosets a b"), console.do("step a b"), console.do("made a b"), console.do("alike a a"), console.do("show b")]
['put', 'put', '2 3 7', '6', '36', '6', 'no', 'yes', '0 3 1']
>>> [console.do("move c 1 0"), console.do("cosets a"), console.do("drop a"), console.do("cosets a b"), console.do("undo"), console.do("step a a a a a a"), console.names]
['no move', 'endless', 'dropped', 'no such move', 'undone', 'no lot', ('a', 'b')]
""")

    def test_interface(self):
        self.assertEqual(Console.__module__, "arealots.consoles")
        self.has_parameters(Console, [])
        self.has_parameters(vars(Console)["do"], ["self", "line"])
        self.assertTrue(inspect.isfunction(vars(Console)["do"]))
        self.assertIsInstance(vars(Console)["names"], property)
        self.assertEqual(Console().do(line="undo"), "nothing")


class LinesTest(ConsoleCase):
    def test_told_answers(self):
        console, _ = self.both()
        for line, told in (
                ("show a", "2 0 0"), ("show edge", f"{BIG} -{BIG} {BIG}"), ("show zero", "0 0 0"), ("then a", "2 0 0"),
                ("then a b", "2 3 7"), ("then b a", "2 3 1"), ("then a b a b a b", "6 9 39"), ("gap b a", "-6"),
                ("gap edge a", f"{2 * BIG}"), ("gap zero a", "0"), ("alike c9 like", "yes"), ("alike c9 a", "no"),
                ("alike a b", "no"), ("made a a", "yes"), ("made a b", "no"), ("made zero b", "yes"),
                ("made wide a b", "no"), ("made edge a b", "no"), ("made pure a b", "no"), ("made a b c9 b a a", "yes"),
                ("cosets a b", "36"), ("cosets a", "endless"), ("cosets pure", "endless"), ("cosets zero", "endless"),
                ("step a b", "6"), ("step pure", "7"), ("step a", "0"), ("step zero", "0"), ("step a b zero", "6"),
                ("step a a a a a", "0"), ("step a a a a a a", "no lot"), ("cosets a b a b a b", "no lot"),
                ("made a b b b b b", "no"), ("made a b b b b b b", "no lot"), ("cosets wide", "no lot"),
                ("step a wide", "no lot"), ("made a wide", "no lot"), ("made wide wide", "no lot"),
                ("step edge", "0"), ("cosets edge a", f"{4 * BIG ** 2}"), ("then wide edge", f"{2 * BIG + 1} -{BIG} "
                                                                           f"{BIG - BIG * (BIG + 1)}")):
            self.assertEqual(console.do(line), told, line)

    def test_no_such_lines(self):
        console, table = self.both()
        for line in ("", " ", "move", "move ", "move a", "move a ", "move  a 1 2 3", "move  1 2 3", "moves a 1 2 3",
                     "Move a 1 2 3", " move a 1 2 3", "drop", "drop ", "drop  a", "drop a ", "drop a b",
                     "drop  ", "Drop a", "show", "show ", "show a b", " show a", "show a ", "then", "then ", "then  a",
                     "then a  b", "then a b ", "gap", "gap a", "gap a ", "gap a b c9", "gap a  b", "gap  a b",
                     "alike", "alike a", "alike a b b", "alike a b ", "made", "made a", "made a ", "made  a b",
                     "made a  b", "made a b ", "cosets", "cosets ", "cosets a  b", "step", "step ", " step a",
                     "undo ", " undo", "undo a", "Undo", "undone", "und", "names", "a", "drop\na", "show\na",
                     "button 1 2 3", "makes a b", "misses a b", "steps a", "no such line"):
            self.assertEqual(console.do(line), "no such line", line)
            self.agrees(console, table, line)
        self.assertEqual(console.names, tuple(sorted(MOVES)))

    def test_lines_with_a_sign_less_more_or_another_one(self):
        lines = ["move a 2 0 0", "move c9 -4 6 5", "drop a", "show b", "then a b", "gap a b", "alike c9 like",
                 "made a b c9", "cosets a b", "step pure", "undo", "move Q 1 2 3", "move a x", "show q"]
        for line in lines:
            changed = [line[:at] + line[at + 1:] for at in range(len(line))]
            for sign in " a0-\n~":
                changed += [line[:at] + sign + line[at:] for at in range(len(line) + 1)]
                changed += [line[:at] + sign + line[at + 1:] for at in range(len(line))]
            words = line.split(" ")
            for at, word in itertools.product(range(len(words)), ("", "a", "show", "1", "move")):
                changed += [" ".join(words[:at] + words[at + 1:]), " ".join(words[:at] + [word] + words[at:])]
                changed += [" ".join(words[:at] + [word] + words[at + 1:])]
            console, table = self.both()
            for other in changed:
                self.agrees(console, table, other)
                # So that lines that put or drop do not take away what the others ask for.
                if table.moves != MOVES:
                    self.agrees(console, table, "undo")

    def test_the_text_of_a_move_is_the_rest_of_the_line(self):
        console, table = self.both()
        for text in ("1 2 3", " 1 2 3", "1 2 3 ", "1  2 3", " ", "  ", "1 2", "1 2 3 4", "+1 2 3", "01 2 3", "-0 0 0",
                     "1 2 3\n", "\n1 2 3", "1,2,3", "x", "(1, 2, 3)", "button 1 2 3", "undo", "1 2 -", "a b c", "~",
                     f"{BIG} {-BIG} 0", f"-{BIG ** 3} 0 {BIG ** 3}"):
            self.assertIn(console.do("move new " + text), ("put", "no move"), text)
            table.answer("move new " + text)
            self.agrees(console, table, "show new")
            self.agrees(console, table, "undo")
            self.agrees(console, table, "move new " + text)

    def test_order_of_answers(self):
        console, table = self.both()
        for line, told in (("move A x", "no name"), ("move A 1 2 3", "no name"), ("move a x", "no move"),
                           ("move A ", "no such line"), ("made q a a a a a a", "no such move"),
                           ("made a a a a a a q", "no such move"), ("step a a a a a q a", "no such move"),
                           ("cosets wide q", "no such move"), ("cosets q", "no such move"), ("gap a q", "no such move"),
                           ("gap q a", "no such move"), ("alike q q", "no such move"), ("drop q", "no such move"),
                           ("show q", "no such move"), ("show A", "no such move"), ("step 6", "no such move"),
                           ("then a b q", "no such move"),
                           ("gap q", "no such line"), ("drop a\n", "no such move"), ("show \n", "no such move")):
            self.assertEqual(console.do(line), told)
            self.agrees(console, table, line)

    def test_long_lines(self):
        console, table = self.both()
        for line in ("then " + " ".join(["a", "b"] * 900), "step " + " ".join(["a"] * 1900), "x" * 4000, " " * 4000,
                     "move " + "n" * 3000 + " 1 2 3", "move a 1 2 " + "9" * 90, "made a" + " b" * 6,
                     "move a " + "1" * 3900 + " 0 0"):
            if len(line) < 3950:
                self.agrees(console, table, line)
            else:
                self.assertEqual(console.do(line), "no such line")


class NamesTest(ConsoleCase):
    def test_names(self):
        good = ("a", "z", "a0", "a9", "zz", "abcdefgh", "a1234567", "move", "undo", "show", "x0y1z2")
        bad = ("", "0", "9a", "A", "aB", "abcdefghi", "a12345678", "a b", " a", "a ", "a-", "a_", "_a", "a.b", "a\n",
               "\n", "-a", "~", "a~", "`", "{", "@", "[", "a/", "a:", "\u00e9", "a\u0661", "\u0430")
        for name in good:
            self.assertIs(is_name(name), True)
            console = Console()
            self.assertEqual(console.do(f"move {name} 1 2 3"), "put")
            self.assertEqual((console.names, console.do(f"show {name}")), ((name,), "1 2 3"))
        for name in bad:
            self.assertIs(is_name(name), False)
            if name and " " not in name and name.isascii():
                console = Console()
                self.assertEqual(console.do(f"move {name} 1 2 3"), "no name")
                self.assertEqual((console.names, console.do("undo")), ((), "nothing"))
        for value in NOTHING + (0, 1, ("a",), ("a", "b"), b"a"):
            self.assertIs(is_name(value), False)

    def test_names_ascend(self):
        for chosen in itertools.permutations(("b", "a", "a0", "aa", "zz")):
            console = Console()
            for name in chosen:
                console.do(f"move {name} 0 0 0")
            self.assertEqual(console.names, ("a", "a0", "aa", "b", "zz"))
            self.assertIs(type(console.names), tuple)

    def test_what_was_returned_does_not_change(self):
        console = Console()
        console.do("move a 1 2 3")
        names = console.names
        console.do("move b 1 2 3")
        console.do("drop a")
        self.assertEqual((names, console.names), (("a",), ("b",)))
        with self.assertRaises(AttributeError):
            console.names = ()


class UndoTest(ConsoleCase):
    def test_all_short_series(self):
        lines = ("move a 1 0 0", "move a 0 1 0", "move b 1 1 1", "drop a", "drop b", "undo", "move a 1 0")
        for chosen in itertools.product(lines, repeat=5):
            console, table = Console(), Table()
            for line in chosen:
                self.agrees(console, table, line)
            for line in ("show a", "show b"):
                self.agrees(console, table, line)

    def test_everything_taken_back(self):
        console, table = self.both()
        for line in ("move a 0 0 9", "drop b", "move b 5 5 5", "drop a", "drop zero", "move a 7 7 7", "move a 7 7 7"):
            self.agrees(console, table, line)
        for _ in range(len(MOVES) + 7):
            self.assertEqual(console.do("undo"), "undone")
            table.answer("undo")
            for name in MOVES:
                self.agrees(console, table, f"show {name}")
        for _ in range(3):
            self.assertEqual(console.do("undo"), "nothing")
        self.assertEqual(console.names, ())

    def test_only_puttings_and_droppings_are_taken_back(self):
        console = Console()
        self.assertEqual(console.do("undo"), "nothing")
        console.do("move a 1 2 3")
        for line in ("show a", "then a a", "gap a a", "alike a a", "made a a", "cosets a", "step a", "move a x", "x",
                     "move A 1 2 3", "drop b", "show b", "undo a", "step a a a a a a"):
            console.do(line)
        self.assertEqual((console.do("undo"), console.names, console.do("undo")), ("undone", (), "nothing"))
        self.assertEqual((console.do("move a 3 2 1"), console.do("show a")), ("put", "3 2 1"))

    def test_drawn_lines(self):
        drawn = random.Random(11)
        console, table = Console(), Table()
        for _ in range(6000):
            word = drawn.choice(("move", "move", "move", "undo", "undo", "drop", "show", "then", "gap", "alike", "made",
                                 "cosets", "step"))
            names = [drawn.choice("abcdq") for _ in range(drawn.randint(0, 6))]
            if word == "move":
                bound = drawn.choice((2, 5, BIG, 2 * BIG))
                names = names[:1] + [str(drawn.randint(-bound, bound)) for _ in range(3)]
            elif word in ("drop", "show", "undo", "gap", "alike") and drawn.random() < 0.8:
                names = [drawn.choice("abcd") for _ in range({"undo": 0, "gap": 2, "alike": 2}.get(word, 1))]
            self.agrees(console, table, " ".join([word] + names))


class WaysTest(ConsoleCase):
    def test_the_functions_answers(self):
        small = list(itertools.product((-2, 0, 3), (-1, 0, 2), (0, 1)))
        for one, two in itertools.product(small, small[::2]):
            console = Console()
            console.do("move one " + move_text(one))
            console.do("move two " + move_text(two))
            lot = Lot((one, two))
            self.assertEqual(console.do("then one two"), move_text(after((one, two))))
            self.assertEqual(console.do("gap one two"), str(gap(one, two)))
            self.assertEqual(console.do("alike one two") == "yes", alike(one, two) is not None)
            self.assertEqual(console.do("cosets one two"), str(cosets(lot) or "endless"))
            self.assertEqual(console.do("step one two"), str(form(lot)[2]))
            self.assertEqual(console.do("made one two") == "yes", makes(Lot((two,)), one))

    def test_many_figures(self):
        console = Console()
        console.do(f"move a {BIG} {1 - BIG} {BIG - 7}")
        console.do(f"move b {2 ** 99} {7 ** 35} {-3 ** 62}")
        lot = Lot(((BIG, 1 - BIG, BIG - 7), (2 ** 99, 7 ** 35, -3 ** 62)))
        self.assertEqual(console.do("cosets a b"), str(cosets(lot)))
        self.assertEqual(console.do("step a b"), str(form(lot)[2]))
        self.assertEqual(console.do("gap a b"), str(gap(*lot.buttons)))
        line = "then" + " a b" * 40
        self.assertEqual(console.do(line), move_text(after(lot.buttons * 40)))
        self.assertEqual(console.do("move c " + console.do(line)), "put")
        self.assertEqual(console.do("made a a b"), "yes")


class ObjectsTest(ConsoleCase):
    def test_never_equal_to_another_one(self):
        one, two = Console(), Console()
        self.assertIs(one == two, False)
        self.assertIs(one != two, True)
        self.assertIs(one == one, True)
        self.assertIs(one != one, False)
        for value in NOTHING + (0, (), "", Console, Equal()):
            self.assertIs(one == value, False)
            self.assertIs(one != value, True)

    def test_always_true(self):
        self.assertIs(bool(Console()), True)

    def test_consoles_share_nothing(self):
        one, two = Console(), Console()
        one.do("move a 1 2 3")
        self.assertEqual((one.names, two.names), (("a",), ()))
        self.assertEqual((two.do("undo"), two.do("show a")), ("nothing", "no such move"))
        self.assertEqual(one.do("show a"), "1 2 3")

    def test_asking_changes_nothing(self):
        console, table = self.both()
        lines = ("show a", "then a b", "gap a b", "alike a b", "made a b", "cosets a b", "step a b", "x", "show q")
        first = [console.do(line) for line in lines]
        self.assertEqual([console.do(line) for line in lines[::-1]][::-1], first)
        self.assertEqual([table.answer(line) for line in lines], first)


if __name__ == "__main__":
    unittest.main()
