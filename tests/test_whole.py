"""What the document promises over all modules: the interface, errors in order, equal results, ways that come to one."""

import copy
import importlib
import inspect
import itertools
import unittest

from arealots import errors
from arealots.certificates import certify_alike, certify_made, certify_moved, certify_root, certify_same
from arealots.checker import accepts
from arealots.consoles import Console
from arealots.forms import (
    classes, common, cosets, doing, form, makes, moved, needless, plan, same, steady, within)
from arealots.libraries import Library
from arealots.lots import Lot
from arealots.mends import holds, mends
from arealots.moves import after, alike, commute, gap, move_text, often, read_move, root, then, undone
from arealots.walkers import Walker
from arealots.walks import direct_walk, direct_walks, place_of, walked, walks
from tests.helper import NO_INTEGERS, NO_LOTS, NO_MOVES, NOTHING, Case, Equal
from tests.test_forms import BOX, DOUBLE, LINE, MANY_FIGURES, STEPS, THIN
from tests.test_libraries import NO_NAMES
from tests.test_mends import NO_WISHES, WISHES

BIG = 10 ** 30
INTERFACE = {
    "limits": "MOST_BUTTONS MOST_NUMBER MOST_DEPTH MOST_STEPS MOST_DIRECT MOST_CHANGES",
    "errors": "WrongValue InvalidText InvalidName InvalidIndex InvalidNumber InvalidMove InvalidWalk InvalidPlan "
              "InvalidWish NotLot InvalidButtons InvalidMoves InvalidChanges InvalidWishes WrongName UnknownName InUse "
              "NotPossible NoWalk NothingToUndo Broken",
    "moves": "move_text read_move then undone often after gap commute alike root",
    "walks": "walked walks direct_walks direct_walk place_of", "lots": "Lot",
    "forms": "form cosets steady makes plan doing same within needless common classes moved", "mends": "holds mends",
    "walkers": "Walker", "consoles": "Console", "libraries": "Library", "checker": "accepts",
    "certificates": "certify_made certify_same certify_moved certify_alike certify_root",
}
METHODS = {
    Lot: "read buttons text changed __eq__ __len__ __str__ __repr__",
    Walker: "go undo at gone __len__ press trial tried",
    Console: "do names",
    Library: "__setitem__ __getitem__ remove wish lift undo names wishes changes __contains__ __len__ trial tried",
}
NO_TEXTS = NOTHING + (0, 1, "", " ", "x", "1 2", "1 2 3 4", (1, 2, 3))
NO_TUPLES = tuple(value for value in NOTHING + (0, "", "ab", Equal()) if type(value) is not tuple)
MOVE = ("InvalidMove", NO_MOVES)
LOT = ("NotLot", NO_LOTS)
NUMBER = ("InvalidNumber", NO_INTEGERS)


def library():
    """A library with a lot that has a wish, and one without."""
    made = Library()
    made["a"], made["b"] = DOUBLE, LINE
    made.wish("a", ("step", 6))
    return made


# What is called, with each argument: its name, a good value, the error for a wrong one, and wrong ones.
CALLS = (
    (move_text, ("move", (1, 2, 3), *MOVE)), (read_move, ("text", "1 2 3", "InvalidText", NO_TEXTS)),
    (then, ("move", (1, 2, 3), *MOVE), ("second", (4, 5, 6), *MOVE)), (undone, ("move", (1, 2, 3), *MOVE)),
    (often, ("move", (1, 2, 3), *MOVE), ("times", -3, *NUMBER)),
    (gap, ("move", (1, 2, 3), *MOVE), ("second", (4, 5, 6), *MOVE)),
    (commute, ("move", (1, 2, 3), *MOVE), ("second", (4, 5, 6), *MOVE)),
    (alike, ("move", (1, 2, 3), *MOVE), ("second", (1, 2, 6), *MOVE)),
    (root, ("move", (3, 3, 6), *MOVE), ("times", 3, "InvalidNumber", NO_INTEGERS + (0, -1, -BIG))),
    (walked, ("walk", "enws", "InvalidWalk", NOTHING + (0, "x", "E", "en ", ("e",), ("e", "n"), "enws\n"))),
    (walks, ("steps", 4, "InvalidNumber", NO_INTEGERS + (-1, 17, BIG)), ("move", (0, 0, 1), *MOVE)),
    (direct_walks, ("move", (2, 2, 2), *MOVE)),
    (direct_walk, ("move", (2, 2, 2), *MOVE), ("index", 1, "InvalidIndex", NO_INTEGERS + (-1, 2, BIG))),
    (place_of, ("walk", "neen", "InvalidWalk", NOTHING + (0, "enw", "s", "e" * 25, ("e",), "x"))),
    (Lot.read, ("text", "button 1 2 3", "InvalidText", NO_TEXTS)),
    (form, ("lot", DOUBLE, *LOT)), (cosets, ("lot", DOUBLE, *LOT)), (steady, ("lot", DOUBLE, *LOT)),
    (makes, ("lot", DOUBLE, *LOT), ("move", (2, 3, 1), *MOVE)),
    (plan, ("lot", DOUBLE, *LOT), ("move", (2, 3, 1), *MOVE)),
    (doing, ("lot", STEPS, *LOT), ("plan", ((0, 2), (1, 3)), "InvalidPlan", NOTHING + (0, "", ((0, 0),), [(0, 1)]))),
    (same, ("lot", DOUBLE, *LOT), ("other", STEPS, *LOT)), (within, ("lot", DOUBLE, *LOT), ("other", STEPS, *LOT)),
    (needless, ("lot", DOUBLE, *LOT)), (common, ("lot", DOUBLE, *LOT), ("other", LINE, *LOT)),
    (classes, ("lot", DOUBLE, *LOT), ("other", STEPS, *LOT)), (moved, ("lot", DOUBLE, *LOT), ("other", DOUBLE, *LOT)),
    (holds, ("lot", DOUBLE, *LOT), ("wish", ("step", 6), "InvalidWish", NO_WISHES)),
    (lambda move: Walker().go(move), ("move", (1, 2, 3), *MOVE)),
    (lambda lot, plan: Walker().press(lot, plan),
     ("lot", STEPS, *LOT), ("plan", ((0, 2),), "InvalidPlan", NOTHING + (0, ((0, 0),), ((2, 1),)))),
    (lambda name, lot: library().__setitem__(name, lot),
     ("name", "c", "InvalidName", NO_NAMES), ("lot", DOUBLE, *LOT)),
    (lambda name: library()[name], ("name", "a", "UnknownName", NO_NAMES + ("c",))),
    (lambda name: library().remove(name), ("name", "b", "UnknownName", NO_NAMES + ("c",))),
    (lambda name, wish: library().wish(name, wish),
     ("name", "b", "UnknownName", NO_NAMES + ("c",)), ("wish", ("step", 5), "InvalidWish", NO_WISHES)),
    (lambda index: library().lift(index), ("index", 0, "InvalidIndex", NO_INTEGERS + (-1, 1, BIG))),
    (certify_made, ("lot", DOUBLE, *LOT), ("move", (2, 3, 1), *MOVE)),
    (certify_same, ("lot", DOUBLE, *LOT), ("other", STEPS, *LOT)),
    (certify_moved, ("lot", DOUBLE, *LOT), ("other", DOUBLE, *LOT)),
    (certify_alike, ("move", (1, 2, 3), *MOVE), ("second", (1, 2, 6), *MOVE)),
    (certify_root, ("move", (3, 3, 6), *MOVE), ("times", 3, "InvalidNumber", NO_INTEGERS + (0, -1, -BIG))),
)
# The same for arguments of which the error tells an index: good values, and pairs of wrong ones and the index.
TUPLES = (
    (after, ("moves", ((1, 2, 3), (4, 5, 6)), "InvalidMoves",
             (((None,), 0), (((1, 2, 3), (1, 2), 5), 1), (((1, 2, True),), 0), (((1, 2, 3), [1, 2, 3]), 1)))),
    (Lot, ("buttons", ((1, 2, 3), (4, 5, 6)), "InvalidButtons",
           (((), None), ((None,), 0), (((1, 2, 3),) * 6, 5), (((1, 2, 3), (0, 0, BIG + 1)), 1), (((True, 2, 3),), 0)))),
    (DOUBLE.changed, ("changes", ((0, ""),), "InvalidChanges",
                      (((None,), 0), (((0, ""), (0, "")), 1), (((True, ""),), 0), (((1, ""), (2, "")), 1),
                       ((0, ""), 0)))),
    (lambda changes: mends(DOUBLE, (), changes),
     ("changes", ((0, ""),), "InvalidChanges", (((None,), 0), (((0, ""), (True, "")), 1), (((0, ""),) * 7, 6)))),
    (lambda wishes: mends(DOUBLE, wishes, None),
     ("wishes", None, "InvalidWishes", (((None,), 0), ((("step", 6), ("step", True)), 1), (("step", 6), 0)))),
)


class InterfaceTest(Case):
    def test_names_are_defined_in_their_files(self):
        for file, names in INTERFACE.items():
            module = importlib.import_module("arealots." + file)
            for name in names.split(" "):
                found = getattr(module, name)
                if file != "limits":
                    self.assertEqual((found.__module__, found.__name__), ("arealots." + file, name))

    def test_methods_are_defined_in_their_classes(self):
        for kind, names in METHODS.items():
            for name in names.split(" "):
                self.assertIn(name, vars(kind))

    def test_modules_need_only_those_ahead(self):
        ahead = {"arealots.integers"}
        for file in INTERFACE:
            module = importlib.import_module("arealots." + file)
            needed = {value.__module__ for value in vars(module).values()
                      if getattr(value, "__module__", "").startswith("arealots.")}
            self.assertLessEqual(needed, ahead | {module.__name__})
            ahead.add(module.__name__)

    def test_no_defaults(self):
        for call, *arguments in CALLS + TUPLES:
            self.has_parameters(call, [name for name, *_ in arguments])


class ErrorsTest(Case):
    def test_the_first_error_is_raised(self):
        for call, *arguments in CALLS:
            for at, (name, _, error, wrong) in enumerate(arguments):
                good = {other: value for other, value, _, _ in arguments[:at]}
                later = {other: values[0] for other, _, _, values in arguments[at + 1:]}
                fine = {other: value for other, value, _, _ in arguments[at + 1:]}
                for value in wrong:
                    for rest in (fine, later):
                        told = {**good, name: value, **rest}
                        self.refuses(getattr(errors, error), {"given": value}, call, *told.values())
                        self.refuses(getattr(errors, error), {"given": value}, call, **dict(list(told.items())[::-1]))

    def test_indexes_of_what_is_wrong(self):
        for call, (name, _, error, wrong) in TUPLES:
            for value in NO_TUPLES:
                self.refuses(getattr(errors, error), {"index": None}, call, value)
                self.refuses(getattr(errors, error), {"index": None}, call, **{name: value})
            for value, index in wrong:
                self.refuses(getattr(errors, error), {"index": index}, call, value)
                self.refuses(getattr(errors, error), {"index": None}, call, list(value))

    def test_true_and_false_are_no_integers(self):
        for value in (True, False):
            for move in ((value, 1, 1), (1, value, 1), (1, 1, value)):
                self.refuses(errors.InvalidMove, {"given": move}, makes, STEPS, move)
                self.refuses(errors.InvalidMove, {"given": move}, certify_root, move, 1)
                self.refuses(errors.InvalidMove, {"given": move}, Walker().go, move)
                self.assertIs(accepts(("makes", STEPS.text, move), ((0, 1), (1, 1))), False)
                self.assertIs(accepts(("alike", (1, 1, 1), (1, 1, 1)), move), False)
            for told in (((value, 1),), ((0, value),), ((((value, 1),), 1),)):
                self.refuses(errors.InvalidPlan, {"given": told}, doing, STEPS, told)
                self.assertIs(accepts(("makes", STEPS.text, doing(STEPS, ((int(value), 1),))), told), False)
            for call in (often, root, certify_root):
                self.refuses(errors.InvalidNumber, {"given": value}, call, (1, 1, 1), value)
            self.refuses(errors.InvalidWish, {"given": ("step", value)}, holds, STEPS, ("step", value))
            self.refuses(errors.InvalidIndex, {"given": value}, library().lift, value)
            self.assertIs(accepts(("root", (1, 1, 1), value), (1, 1, 1)), False)
        self.assertIs(accepts(("root", (1, 1, 1), 1), (1, 1, 1)), True)

    def test_nothing_is_changed_by_errors(self):
        walker, console, made = Walker(), Console(), library()
        walker.go((1, 2, 3))
        console.do("move a 1 2 3")
        for value in NO_MOVES:
            self.refuses(errors.InvalidMove, {"given": value}, walker.go, value)
        for value in NO_NAMES:
            self.refuses(errors.InvalidName, {"given": value}, made.__setitem__, value, DOUBLE)
            self.refuses(errors.UnknownName, {"given": value}, made.remove, value)
        for line in ("move a 1 2", "move A 1 2 3", "drop b", "x"):
            console.do(line)
        self.refuses(errors.Broken, {"index": 0}, made.__setitem__, "a", LINE)
        self.refuses(errors.InUse, {"index": 0}, made.remove, "a")
        self.assertEqual((walker.gone, console.names, console.do("show a")), (((1, 2, 3),), ("a",), "1 2 3"))
        self.assertEqual((made.names, made.wishes, made.changes), (("a", "b"), (("a", ("step", 6)),), 3))


class ResultsTest(Case):
    def test_by_position_and_by_name(self):
        for call, *arguments in CALLS + TUPLES[:4]:
            good = {name: value for name, value, *_ in arguments}
            before = copy.deepcopy([vars(value) for value in good.values() if type(value) is Lot])
            first = call(*good.values())
            self.assertEqual(call(**good), first)
            self.assertEqual(call(**dict(list(good.items())[::-1])), first)
            # Equal arguments that are other objects.
            again = [Lot.read(value.text) if type(value) is Lot else copy.deepcopy(value) for value in good.values()]
            self.assertEqual(call(*again), first)
            self.assertEqual([vars(value) for value in good.values() if type(value) is Lot], before)

    def test_kinds_of_results(self):
        for call, *arguments in CALLS:
            self.is_plain(call(*[value for _, value, *_ in arguments]))

    def is_plain(self, value):
        """The value is of integers, strings, True and False, None and lots, in tuples."""
        if type(value) is tuple:
            for part in value:
                self.is_plain(part)
        else:
            self.assertIn(type(value), (int, str, bool, type(None), Lot))

    def test_objects_of_no_two_classes_are_equal(self):
        objects = [DOUBLE, Walker(), Console(), Library(), DOUBLE.text, DOUBLE.buttons, (), 0, "", None, Equal()]
        for one, two in itertools.combinations(objects, 2):
            if type(one) in METHODS:
                self.assertIs(one == two, False)
                self.assertIs(one != two, True)
        for kind in (Walker, Console, Library):
            one, two = kind(), kind()
            self.assertEqual((one == one, one != one, one == two, one != two), (True, False, False, True))
            self.assertIs(bool(one), True)


class WaysTest(Case):
    LOTS = THIN + tuple(Lot(MANY_FIGURES[:many]) for many in (1, 2, 3, 5))

    def test_plans_by_doing_by_a_walker_and_by_the_checker(self):
        for lot in self.LOTS:
            walker, at = Walker(), (0, 0, 0)
            for move in BOX[::23] + list(lot.buttons):
                found = plan(lot, move)
                if found is not None:
                    at = then(at, move)
                    self.assertEqual((doing(lot, found), walker.press(lot, found), walker.gone[-1]), (move, at, move))
                self.assertIs(accepts(("makes", lot.text, move), found), found is not None)
                self.assertIs(accepts(("misses", lot.text, move), form(lot)), found is None)

    def test_wishes_by_holds_by_a_library_and_by_mends(self):
        for lot, wish in itertools.product(self.LOTS, WISHES):
            told = holds(lot, wish)
            made = Library()
            made["a"] = lot
            if told:
                self.assertIsNone(made.wish("a", wish))
                made["a"] = lot
            else:
                self.refuses(errors.Broken, {"index": 0}, made.wish, "a", wish)
            self.assertEqual(mends(lot, (wish,), ()), ((),) if told else ())

    def test_mends_by_changed_lots(self):
        changes = ((0, "button 1 0 0"), (1, "button 0 1 0"), (0, ""), (1, "x"), (1, "button 4 4 4"))
        for wish in WISHES:
            for chosen in mends(DOUBLE, (wish,), changes):
                self.assertIs(holds(DOUBLE.changed(tuple(changes[index] for index in chosen)), wish), True)

    def test_steps_and_cosets_by_a_console(self):
        for lot in self.LOTS:
            console = Console()
            names = ["abcde"[index] for index in range(len(lot))]
            for name, button in zip(names, lot.buttons):
                self.assertEqual(console.do(f"move {name} {move_text(button)}"), "put")
            line = " ".join(names)
            self.assertEqual(console.do("step " + line), str(form(lot)[2]))
            self.assertEqual(console.do("cosets " + line), "endless" if cosets(lot) is None else str(cosets(lot)))
            self.assertEqual(console.do("then " + line), move_text(after(lot.buttons)))
            for move in BOX[::67]:
                self.assertEqual(console.do("move m " + move_text(move)), "put")
                self.assertEqual(console.do("made m " + line), "yes" if makes(lot, move) else "no")

    def test_walks_are_made_by_the_steps(self):
        for walk in ("", "enws", "eenn", "nnee", "wswsnn"):
            self.assertIs(makes(STEPS, walked(walk)), True)
            presses = tuple(("en".index(letter), 1) if letter in "en" else ("ws".index(letter), -1) for letter in walk)
            self.assertEqual(doing(STEPS, presses), walked(walk))

    def test_signatures_have_no_other_parameters(self):
        for kind, names in METHODS.items():
            for name in names.split(" "):
                call = vars(kind)[name]
                if inspect.isfunction(call):
                    kinds = {parameter.kind for parameter in inspect.signature(call).parameters.values()}
                    self.assertEqual(kinds, {inspect.Parameter.POSITIONAL_OR_KEYWORD})


if __name__ == "__main__":
    unittest.main()
