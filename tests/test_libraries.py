import inspect
import itertools
import random
import unittest

from arealots.errors import (
    Broken, InUse, InvalidIndex, InvalidName, InvalidWish, NothingToUndo, NotLot, UnknownName)
from arealots.libraries import Library
from arealots.lots import Lot
from arealots.mends import holds
from tests.helper import NO_INTEGERS, NO_LOTS, NOTHING, Case, Equal, Stop, Strange, is_nested, nested
from tests.test_mends import NO_WISHES, WISHES, keeps

BIG = 10 ** 30
STEPS = Lot(((1, 0, 0), (0, 1, 0)))
DOUBLE = Lot(((2, 0, 0), (0, 3, 1)))
LINE = Lot(((2, 4, 1), (3, 6, 2)))
METHODS = {"remove": ["self", "name"], "wish": ["self", "name", "wish"], "lift": ["self", "index"], "undo": ["self"],
           "trial": ["self"], "tried": ["self", "action"]}
NO_NAMES = NOTHING + (
    0, 1, -1, "", "A", "0", "9a", "aB", "abcdefghi", "a b", " a", "a ", "a-", "_a", "a_", "a\n", "\u00e9", ("a",),
    ("all",), ["a"], slice(0, 1), Equal(), ("a", "b"))


class Kept:
    """What a library has to be: lots, wishes, and all that can be taken back, each as a pair of both."""

    def __init__(self):
        self.lots = {}
        self.wished = []
        self.past = []

    def change(self, lots, wished):
        self.past.append((self.lots, self.wished))
        self.lots, self.wished = lots, wished

    def put(self, name, lot):
        for index, (wished_name, wish) in enumerate(self.wished):
            if not keeps(lot if wished_name == name else self.lots[wished_name], wish):
                return Broken, {"index": index}
        self.change({**self.lots, name: lot}, self.wished)

    def remove(self, name):
        if name not in self.lots:
            return UnknownName, {"given": name}
        for index, (wished_name, _) in enumerate(self.wished):
            if wished_name == name:
                return InUse, {"index": index}
        self.change({other: self.lots[other] for other in self.lots if other != name}, self.wished)

    def wish(self, name, wish):
        if name not in self.lots:
            return UnknownName, {"given": name}
        if not keeps(self.lots[name], wish):
            return Broken, {"index": len(self.wished)}
        self.change(self.lots, self.wished + [(name, wish)])

    def lift(self, index):
        if index not in range(len(self.wished)):
            return InvalidIndex, {"given": index}
        self.change(self.lots, self.wished[:index] + self.wished[index + 1:])

    def undo(self):
        if not self.past:
            return NothingToUndo, {}
        self.lots, self.wished = self.past.pop()

    def all(self):
        return self.lots, self.wished, list(self.past)


class LibraryCase(Case):
    def stands(self, library, kept):
        """The library is as it was kept, whatever is asked of it."""
        names = tuple(sorted(kept.lots))
        self.assertEqual((library.names, library.wishes), (names, tuple(kept.wished)))
        self.assertEqual((type(library.names), type(library.wishes)), (tuple, tuple))
        self.assertEqual((library.changes, len(library), bool(library)), (len(kept.past), len(kept.lots), True))
        for name in ("a", "b", "c"):
            self.assertIs(name in library, name in kept.lots)
            if name in kept.lots:
                self.assertIs(library[name], kept.lots[name])
            else:
                self.refuses(UnknownName, {"given": name}, library.__getitem__, name)

    def does(self, library, kept, told):
        """Does the same with the library and what is kept; errors are those that are told."""
        word, *values = told
        error = getattr(kept, word)(*values)
        call = library.__setitem__ if word == "put" else getattr(library, word)
        if error:
            self.refuses(error[0], error[1], call, *values)
        else:
            self.assertIsNone(call(*values))


class ExamplesTest(LibraryCase):
    def test_examples(self):
        self.follows("""
>>> from arealots.lots import Lot
>>> steps, double, line = Lot(((1, 0, 0), (0, 1, 0))), Lot(((2, 0, 0), (0, 3, 1))), Lot.read("button 2 4 1\\nbutton 3 6 2")
>>> from arealots.libraries import Library
>>> library = Library()
>>> library["all"] = double
>>> library.wish("all", ("step", 6))
>>> [library.names, library.wishes, library.changes, "all" in library]
[('all',), (('all', ('step', 6)),), 2, True]
>>> library["all"] = line
raises Broken(index=0)
""")

    def test_interface(self):
        self.assertEqual(Library.__module__, "arealots.libraries")
        self.has_parameters(Library, [])
        for name, parameters in METHODS.items():
            self.has_parameters(vars(Library)[name], parameters)
        for name in ("names", "wishes", "changes"):
            self.assertIsInstance(vars(Library)[name], property)
        for name in ("__getitem__", "__setitem__", "__contains__", "__len__"):
            self.assertTrue(inspect.isfunction(vars(Library)[name]))

    def test_by_name(self):
        library = Library()
        library["a"] = DOUBLE
        self.assertIsNone(library.wish(wish=("step", 6), name="a"))
        self.assertEqual(library.wishes, (("a", ("step", 6)),))
        self.assertIsNone(library.lift(index=0))
        self.assertIsNone(library.remove(name="a"))
        self.assertEqual((library.names, library.wishes, library.changes), ((), (), 4))
        self.assertEqual(library.tried(action=len), 0)


class ChangesTest(LibraryCase):
    def test_all_short_series(self):
        told = (("put", "a", DOUBLE), ("put", "a", LINE), ("put", "b", STEPS), ("wish", "a", ("step", 6)),
                ("wish", "b", ("cosets", 1)), ("wish", "a", ("makes", "0 0 0")), ("remove", "a"), ("remove", "b"),
                ("lift", 0), ("lift", 1), ("undo",))
        for chosen in itertools.product(told, repeat=4):
            library, kept = Library(), Kept()
            for one in chosen:
                self.does(library, kept, one)
            self.stands(library, kept)

    def test_everything_taken_back_one_by_one(self):
        library, kept = Library(), Kept()
        for one in (("put", "a", DOUBLE), ("put", "b", LINE), ("wish", "a", ("step", 6)), ("wish", "b", ("step", 5)),
                    ("put", "a", DOUBLE), ("put", "b", Lot(((1, 2, 7), (2, 4, 12)))), ("wish", "a", ("step", 6)),
                    ("remove", "a"), ("lift", 0), ("lift", 1), ("remove", "a"), ("put", "c", STEPS), ("lift", 0),
                    ("remove", "c"), ("remove", "b"), ("put", "a", LINE)):
            self.does(library, kept, one)
            self.stands(library, kept)
        while kept.past:
            self.does(library, kept, ("undo",))
            self.stands(library, kept)
        for _ in range(3):
            self.does(library, kept, ("undo",))
            self.stands(library, kept)

    def test_taken_back_and_changed_again(self):
        library = Library()
        library["a"] = DOUBLE
        library["a"] = LINE
        library.undo()
        library["a"] = STEPS
        library.undo()
        self.assertEqual((library["a"], library.changes), (DOUBLE, 1))
        library.undo()
        self.assertEqual((library.names, library.changes), ((), 0))

    def test_changes_that_change_nothing_count(self):
        library = Library()
        for number in range(1, 4):
            library["a"] = DOUBLE
            self.assertEqual(library.changes, number)
        library.wish("a", ("step", 6))
        library.wish("a", ("step", 6))
        self.assertEqual((library.wishes, library.changes), ((("a", ("step", 6)),) * 2, 5))
        for changes in (4, 3, 2, 1, 0):
            self.assertIsNone(library.undo())
            self.assertEqual(library.changes, changes)

    def test_lots_and_wishes_are_kept_as_they_were_passed(self):
        library = Library()
        lot, wish, name = Lot(((2, 0, 0), (0, 3, 1))), ("makes", "2 3 1"), "name1"
        library[name] = lot
        library.wish(name, wish)
        self.assertIs(library["name1"], lot)
        self.assertIs(library.wishes[0][1], wish)
        self.assertEqual([type(pair) for pair in library.wishes], [tuple])
        wishes, names = library.wishes, library.names
        library.lift(0)
        library.remove("name1")
        self.assertEqual((wishes, names), ((("name1", ("makes", "2 3 1")),), ("name1",)))

    def test_names_ascend(self):
        for chosen in itertools.permutations(("b", "a", "a0", "aa")):
            library = Library()
            for name in chosen:
                library[name] = STEPS
            self.assertEqual(library.names, ("a", "a0", "aa", "b"))

    def test_properties_are_not_set(self):
        library = Library()
        for name in ("names", "wishes", "changes"):
            with self.assertRaises(AttributeError):
                setattr(library, name, ())


class WishesTest(LibraryCase):
    def test_wishes_of_all_kinds(self):
        for lot, wish in itertools.product((STEPS, DOUBLE, LINE, Lot(((0, 0, 0),))), WISHES):
            library = Library()
            library["a"] = lot
            if holds(lot, wish):
                library.wish("a", wish)
                for other in (STEPS, DOUBLE, LINE):
                    if holds(other, wish):
                        library["a"] = other
                    else:
                        self.refuses(Broken, {"index": 0}, library.__setitem__, "a", other)
            else:
                self.refuses(Broken, {"index": 0}, library.wish, "a", wish)
                self.assertEqual((library.wishes, library.changes), ((), 1))

    def test_the_first_wish_that_does_not_hold(self):
        library = Library()
        library["a"] = DOUBLE
        library["b"] = DOUBLE
        for name, wish in (("b", ("step", 6)), ("a", ("makes", "0 0 0")), ("a", ("makes", "2 3 1")),
                           ("b", ("cosets", 36)), ("a", ("step", 6)), ("a", ("misses", "1 0 0"))):
            library.wish(name, wish)
        for lot, index in ((LINE, 2), (STEPS, 4), (Lot(((0, 0, 0),)), 2), (Lot(((2, 3, 1), (0, 0, 5))), 4),
                           (Lot(((1, 0, 0), (0, 6, 0), (2, 3, 1))), 4), (Lot(((1, 0, 0), (0, 0, 6), (0, 3, 1))), 4),
                           (Lot(((1, 0, 0), (0, 6, 0), (0, 3, 1), (0, 0, 3))), 4)):
            self.refuses(Broken, {"index": index}, library.__setitem__, "a", lot)
        self.refuses(Broken, {"index": 0}, library.__setitem__, "b", LINE)
        self.refuses(Broken, {"index": 3}, library.__setitem__, "b", Lot(((6, 0, 0), (0, 0, 6))))
        self.refuses(Broken, {"index": 6}, library.wish, "b", ("step", 5))
        library["c"] = LINE
        self.refuses(Broken, {"index": 6}, library.wish, "c", ("step", 6))
        self.assertEqual((library["a"], library["b"], library.changes), (DOUBLE, DOUBLE, 9))

    def test_lots_in_use(self):
        library = Library()
        for name in ("a", "b", "c"):
            library[name] = DOUBLE
        for name in ("b", "a", "b", "a"):
            library.wish(name, ("step", 6))
        self.refuses(InUse, {"index": 1}, library.remove, "a")
        self.refuses(InUse, {"index": 0}, library.remove, "b")
        library.remove("c")
        library.lift(1)
        self.refuses(InUse, {"index": 2}, library.remove, "a")
        library.lift(2)
        library.remove("a")
        self.refuses(InUse, {"index": 0}, library.remove, "b")
        self.assertEqual((library.names, library.wishes), (("b",), (("b", ("step", 6)),) * 2))
        library.undo()
        self.assertEqual(library.names, ("a", "b"))
        library.undo()
        self.refuses(InUse, {"index": 2}, library.remove, "a")

    def test_wishes_of_a_lot_that_is_put_again(self):
        library = Library()
        library["a"] = DOUBLE
        library.wish("a", ("step", 6))
        library.lift(0)
        library["a"] = LINE
        library.undo()
        library.undo()
        self.refuses(Broken, {"index": 0}, library.__setitem__, "a", LINE)
        library["b"] = LINE
        self.assertEqual(library.names, ("a", "b"))

    def test_many_figures(self):
        library = Library()
        library["a"] = Lot(((BIG, 0, 0), (0, BIG, 0)))
        library.wish("a", ("step", BIG ** 2))
        library.wish("a", ("cosets", BIG ** 4))
        library.wish("a", ("makes", f"{BIG} {BIG} {BIG ** 2 * 12345678901234567890}"))
        self.refuses(Broken, {"index": 3}, library.wish, "a", ("cosets", BIG ** 4 - 1))
        self.refuses(Broken, {"index": 0}, library.__setitem__, "a", Lot(((BIG, 0, 0), (0, BIG - 1, 0))))
        self.assertEqual(library.changes, 4)


class TrialTest(LibraryCase):
    TOLD = {"p": ("put", "a", DOUBLE), "q": ("put", "a", LINE), "w": ("wish", "a", ("step", 6)), "r": ("remove", "a"),
            "l": ("lift", 0), "u": ("undo",), "s": ("put", "b", STEPS), "v": ("wish", "b", ("cosets", 1))}

    def runs(self, signs, start):
        """The library is as told behind trials that begin with ( and end with ), or with ! by an exception."""
        for shared in (False, True):
            library, kept = Library(), Kept()
            for sign in start:
                self.does(library, kept, self.TOLD[sign])
            trial = library.trial()
            self.run_signs(list(signs), library, kept, (lambda: trial) if shared else library.trial)
            self.stands(library, kept)
            for _ in range(len(kept.past)):
                self.does(library, kept, ("undo",))
            self.stands(library, kept)

    def run_signs(self, signs, library, kept, trial):
        while signs:
            sign = signs.pop(0)
            if sign == "(":
                before = kept.all()
                try:
                    with trial() as held:
                        self.assertIs(held, library)
                        self.run_signs(signs, library, kept, trial)
                except Stop as stop:
                    self.assertEqual(stop.args, (len(signs),))
                    kept.lots, kept.wished, kept.past = before
                    self.stands(library, kept)
            elif sign == ")":
                return
            elif sign == "!":
                raise Stop(len(signs))
            else:
                self.does(library, kept, self.TOLD[sign])

    def test_all_short_trials(self):
        for many in (2, 3, 4, 5):
            for signs in itertools.product("qru()!", repeat=many):
                if is_nested(signs):
                    self.runs(signs, "p")

    def test_drawn_trials(self):
        drawn = random.Random(12)
        for _ in range(500):
            signs, depth = [], 0
            for _ in range(drawn.randint(5, 40)):
                sign = drawn.choice("pqwrlusv((" + ")!" * (depth > 0))
                depth += {"(": 1, ")": -1, "!": -1}.get(sign, 0)
                signs.append(sign)
            self.runs(signs + [drawn.choice(")!") for _ in range(depth)], "ps")

    def test_a_trial_that_holds(self):
        library = Library()
        library["a"] = DOUBLE
        with library.trial() as held:
            held["b"] = LINE
            held.wish("b", ("step", 5))
        self.assertIs(held, library)
        self.assertEqual((library.names, library.changes), (("a", "b"), 3))
        library.undo()
        library.undo()
        library.undo()
        self.refuses(NothingToUndo, {}, library.undo)

    def test_a_trial_that_falls(self):
        library = Library()
        library["a"] = DOUBLE
        library.wish("a", ("step", 6))
        with self.assertRaises(Stop):
            with library.trial():
                library["b"] = LINE
                library.undo()
                library.undo()
                library.undo()
                self.assertEqual((library.names, library.changes), ((), 0))
                self.refuses(NothingToUndo, {}, library.undo)
                library["c"] = STEPS
                raise Stop()
        self.assertEqual((library.names, library.wishes, library.changes), (("a",), (("a", ("step", 6)),), 2))
        library.undo()
        self.assertEqual((library.names, library.wishes, library.changes), (("a",), (), 1))
        library.undo()
        self.refuses(NothingToUndo, {}, library.undo)

    def test_own_errors_in_a_trial(self):
        library = Library()
        library["a"] = DOUBLE
        library.wish("a", ("step", 6))
        with self.assertRaises(Broken) as caught:
            with library.trial():
                library["b"] = LINE
                library["a"] = LINE
        self.assertEqual((caught.exception.index, library.names, library.changes), (0, ("a",), 2))
        with library.trial():
            library["b"] = LINE
            self.refuses(Broken, {"index": 0}, library.__setitem__, "a", LINE)
        self.assertEqual((library.names, library.changes), (("a", "b"), 3))

    def test_exceptions_are_passed_on(self):
        library = Library()
        library["a"] = DOUBLE
        for stop in (Stop("x"), KeyboardInterrupt(), SystemExit(3), NothingToUndo(), GeneratorExit(), StopIteration()):
            with self.assertRaises(type(stop)) as caught:
                with library.trial():
                    library.remove("a")
                    raise stop
            self.assertIs(caught.exception, stop)
            self.assertEqual((library.names, library.changes), (("a",), 1))

    def test_a_block_that_is_left(self):
        library = Library()
        for number in range(3):
            with library.trial():
                library["abc"[number]] = STEPS
                if number == 1:
                    continue
                if number == 2:
                    break

        def leave():
            with library.trial():
                library["d"] = LINE
                return library.names

        self.assertEqual(leave(), ("a", "b", "c", "d"))
        self.assertEqual((library.names, library.changes), (("a", "b", "c", "d"), 4))

    def test_a_trial_begins_when_the_statement_begins(self):
        library = Library()
        trial = library.trial()
        library["a"] = DOUBLE
        for lot in (LINE, STEPS):
            with self.assertRaises(Stop):
                with trial:
                    library["a"] = lot
                    raise Stop()
            self.assertEqual((library["a"], library.changes), (DOUBLE, 1))
        with trial:
            library["a"] = LINE
        with self.assertRaises(Stop):
            with trial:
                library.undo()
                raise Stop()
        self.assertEqual((library["a"], library.changes), (LINE, 2))

    def test_one_object_for_statements_within_one_another(self):
        library = Library()
        trial = library.trial()
        with self.assertRaises(Stop):
            with trial:
                library["a"] = DOUBLE
                with trial as held:
                    library["b"] = LINE
                self.assertIs(held, library)
                with self.assertRaises(Stop):
                    with trial, trial:
                        library["c"] = STEPS
                        raise Stop()
                self.assertEqual((library.names, library.changes), (("a", "b"), 2))
                raise Stop()
        self.assertEqual((library.names, library.changes), ((), 0))
        with trial:
            library["a"] = DOUBLE
            with self.assertRaises(Stop):
                with trial:
                    library.undo()
                    raise Stop()
            self.assertEqual(library.names, ("a",))
        self.assertEqual((library.names, library.changes), (("a",), 1))

    def test_trials_of_two_libraries(self):
        one, two = Library(), Library()
        with self.assertRaises(Stop):
            with one.trial():
                one["a"] = DOUBLE
                two["b"] = LINE
                with two.trial():
                    two["c"] = LINE
                raise Stop()
        self.assertEqual((one.names, two.names, one.changes, two.changes), ((), ("b", "c"), 0, 2))


class TriedTest(LibraryCase):
    def test_what_the_function_returns(self):
        library = Library()
        library["a"] = DOUBLE
        for value in NOTHING:
            self.assertIs(library.tried(lambda held: value), value)
        self.assertIs(library.tried(lambda held: held), library)
        self.assertIsNone(library.tried(lambda held: held.remove("a")))
        self.assertEqual((library.names, library.changes), ((), 2))

    def test_what_the_function_raises(self):
        library = Library()
        library["a"] = DOUBLE
        stop = Stop()

        def action(held):
            held["b"] = LINE
            held.undo()
            held.undo()
            raise stop

        with self.assertRaises(Stop) as caught:
            library.tried(action)
        self.assertIs(caught.exception, stop)
        self.assertEqual((library.names, library.changes), (("a",), 1))
        self.refuses(NothingToUndo, {}, Library().tried, lambda held: held.undo())
        self.refuses(UnknownName, {"given": "b"}, library.tried, lambda held: (held.undo(), held["b"]))
        self.assertEqual((library.names, library.changes), (("a",), 1))

    def test_trying_while_trying(self):
        library = Library()

        def fall(held):
            held["b"] = LINE
            raise Stop()

        def action(held):
            held["a"] = DOUBLE
            self.assertRaises(Stop, held.tried, fall)
            return held.names, held.changes

        self.assertEqual(library.tried(action), (("a",), 1))
        self.assertEqual((library.names, library.changes), (("a",), 1))


class ErrorsTest(LibraryCase):
    def setUp(self):
        self.library, self.kept = Library(), Kept()
        for one in (("put", "a", DOUBLE), ("put", "b", LINE), ("wish", "a", ("step", 6)), ("wish", "b", ("step", 5))):
            self.does(self.library, self.kept, one)

    def tearDown(self):
        self.stands(self.library, self.kept)

    def test_no_name(self):
        for value in NO_NAMES:
            for lot in (STEPS, LINE, None):
                self.refuses(InvalidName, {"given": value}, self.library.__setitem__, value, lot)

    def test_good_names(self):
        library = Library()
        for name in ("a", "z9", "abcdefgh", "a1234567", "names", "undo"):
            library[name] = STEPS
            self.assertIn(name, library)
        self.assertEqual(len(library), 6)

    def test_no_lot(self):
        for value in NO_LOTS:
            for name in ("a", "new"):
                self.refuses(NotLot, {"given": value}, self.library.__setitem__, name, value)

    def test_unknown_names(self):
        library = self.library
        for value in NO_NAMES + ("c", "step", "ab"):
            self.refuses(UnknownName, {"given": value}, library.__getitem__, value)
            self.refuses(UnknownName, {"given": value}, library.remove, value)
            self.refuses(UnknownName, {"given": value}, library.remove, name=value)
            for wish in (("step", 6), ("step", 7), None):
                self.refuses(UnknownName, {"given": value}, library.wish, value, wish)
                self.refuses(UnknownName, {"given": value}, library.wish, wish=wish, name=value)
            self.assertIs(value in library, False)
        for name in ("a", "b"):
            self.assertIs(name in library, True)

    def test_no_wish(self):
        for value in NO_WISHES + (nested(20),):
            self.refuses(InvalidWish, {"given": value}, self.library.wish, "a", value)
            self.refuses(InvalidWish, {"given": value}, self.library.wish, wish=value, name="b")

    def test_no_index(self):
        for value in NO_INTEGERS + (-1, -2, 2, 3, BIG, -BIG, Equal(), Strange(), slice(0, 1), "0"):
            self.refuses(InvalidIndex, {"given": value}, self.library.lift, value)
            self.refuses(InvalidIndex, {"given": value}, self.library.lift, index=value)
        for value in (0, -1, 1, None, True):
            self.refuses(InvalidIndex, {"given": value}, Library().lift, value)

    def test_broken_is_last(self):
        self.refuses(InvalidName, {"given": "A"}, self.library.__setitem__, "A", None)
        self.refuses(NotLot, {"given": None}, self.library.__setitem__, "a", None)
        self.refuses(Broken, {"index": 0}, self.library.__setitem__, "a", LINE)
        self.refuses(Broken, {"index": 1}, self.library.__setitem__, "b", DOUBLE)
        self.refuses(UnknownName, {"given": "c"}, self.library.wish, "c", None)
        self.refuses(InvalidWish, {"given": None}, self.library.wish, "a", None)
        self.refuses(Broken, {"index": 2}, self.library.wish, "a", ("step", 5))
        self.refuses(UnknownName, {"given": "c"}, self.library.remove, "c")
        self.refuses(InUse, {"index": 1}, self.library.remove, "b")

    def test_errors_within_trials(self):
        with self.library.trial():
            self.refuses(Broken, {"index": 0}, self.library.__setitem__, "a", LINE)
            self.refuses(InUse, {"index": 0}, self.library.remove, "a")
            self.stands(self.library, self.kept)


class ObjectsTest(LibraryCase):
    def test_never_equal_to_another_one(self):
        one, two = Library(), Library()
        self.assertIs(one == two, False)
        self.assertIs(one != two, True)
        one["a"] = two["a"] = DOUBLE
        self.assertIs(one == two, False)
        self.assertIs(one == one, True)
        self.assertIs(one != one, False)
        for value in NOTHING + (0, (), {}, {"a": DOUBLE}, Library, Equal()):
            self.assertIs(one == value, False)
            self.assertIs(one != value, True)

    def test_always_true(self):
        library = Library()
        self.assertEqual((len(library), bool(library)), (0, True))
        library["a"] = DOUBLE
        self.assertEqual((len(library), bool(library)), (1, True))

    def test_libraries_share_nothing(self):
        one, two = Library(), Library()
        one["a"] = DOUBLE
        one.wish("a", ("step", 6))
        self.assertEqual((two.names, two.wishes, two.changes), ((), (), 0))
        self.refuses(NothingToUndo, {}, two.undo)

    def test_a_library_is_not_gone_through(self):
        library = Library()
        library["a"] = DOUBLE
        self.assertRaises(TypeError, list, library)

    def test_long_series(self):
        library, lots = Library(), (DOUBLE, LINE, STEPS)
        for number in range(5000):
            library["a"] = lots[number % 3]
        for number in range(4999, -1, -1):
            self.assertIs(library["a"], lots[number % 3])
            library.undo()
        self.assertEqual((library.names, library.changes), ((), 0))


if __name__ == "__main__":
    unittest.main()
