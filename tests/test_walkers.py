import inspect
import itertools
import unittest

from arealots.errors import InvalidMove, InvalidPlan, NotLot, NothingToUndo
from arealots.lots import Lot
from arealots.walkers import Walker
from tests.helper import NO_LOTS, NO_MOVES, NOTHING, Case, Equal, Stop, is_nested, swept

BIG = 10 ** 30
STEPS = Lot(((1, 0, 0), (0, 1, 0)))
METHODS = {"go": ["self", "move"], "press": ["self", "lot", "plan"], "undo": ["self"], "trial": ["self"],
           "tried": ["self", "action"]}


def end_of(gone):
    at = (0, 0, 0)
    for move in gone:
        at = swept(at, move)
    return at


class WalkerCase(Case):
    def stands(self, walker, gone):
        """The walker is where these moves lead, and has gone these."""
        self.assertEqual((walker.at, walker.gone, len(walker)), (end_of(gone), tuple(gone), len(gone)))
        self.assertIs(type(walker.gone), tuple)
        self.assertIs(bool(walker), True)


class ExamplesTest(WalkerCase):
    def test_examples(self):
        self.follows("""
>>> from arealots.lots import Lot
>>> steps = Lot(((1, 0, 0), (0, 1, 0)))
>>> from arealots.walkers import Walker
>>> walker = Walker()
>>> [walker.go((1, 0, 0)), walker.go((0, 1, 0)), walker.press(steps, ((0, -1), (1, -1))), walker.at, len(walker), walker.undo(), walker.at, walker.gone, walker.tried(len)]
[(1, 0, 0), (1, 1, 1), (0, 0, 1), (0, 0, 1), 3, None, (1, 1, 1), ((1, 0, 0), (0, 1, 0)), 2]
>>> Walker().undo()
raises NothingToUndo()
""")

    def test_interface(self):
        self.assertEqual(Walker.__module__, "arealots.walkers")
        self.has_parameters(Walker, [])
        for name, parameters in METHODS.items():
            self.has_parameters(vars(Walker)[name], parameters)
        for name in ("at", "gone"):
            self.assertIsInstance(vars(Walker)[name], property)
        self.assertTrue(inspect.isfunction(vars(Walker)["__len__"]))

    def test_by_name(self):
        walker = Walker()
        self.assertEqual(walker.go(move=(1, 0, 0)), (1, 0, 0))
        self.assertEqual(walker.press(plan=((1, 1),), lot=STEPS), (1, 1, 1))
        self.assertEqual(walker.tried(action=len), 2)


class GoingTest(WalkerCase):
    def test_all_short_goings(self):
        moves = ((1, 0, 0), (0, 1, 0), (-2, 3, 5))
        for chosen in itertools.product(moves + (None,), repeat=5):
            walker, gone = Walker(), []
            self.stands(walker, gone)
            for move in chosen:
                if move is not None:
                    gone.append(move)
                    self.assertEqual(walker.go(move), end_of(gone))
                elif gone:
                    gone.pop()
                    self.assertIsNone(walker.undo())
                else:
                    self.refuses(NothingToUndo, {}, walker.undo)
                self.stands(walker, gone)

    def test_many_figures(self):
        walker = Walker()
        gone = [(BIG, -BIG, BIG), (BIG ** 2, 7, -1), (0, 0, 0), (-BIG, BIG, 5)]
        for move in gone:
            walker.go(move)
        self.stands(walker, gone)
        for many in (3, 2, 1, 0):
            walker.undo()
            self.stands(walker, gone[:many])

    def test_pressing(self):
        walker = Walker()
        self.assertEqual(walker.press(STEPS, ((0, 2), (1, 3))), (2, 3, 6))
        self.assertEqual(walker.press(STEPS, ()), (2, 3, 6))
        self.assertEqual(walker.press(STEPS, ((((0, 1), (1, 1)), 2),)), (4, 5, 13))
        self.stands(walker, [(2, 3, 6), (0, 0, 0), (2, 2, 3)])
        walker.undo()
        self.stands(walker, [(2, 3, 6), (0, 0, 0)])

    def test_a_long_way(self):
        walker = Walker()
        gone = [(index % 3 - 1, index % 5 - 2, index) for index in range(2000)]
        for move in gone:
            walker.go(move)
        self.stands(walker, gone)
        for _ in gone:
            walker.undo()
        self.stands(walker, [])
        self.refuses(NothingToUndo, {}, walker.undo)

    def test_what_was_returned_does_not_change(self):
        walker = Walker()
        walker.go((1, 2, 3))
        gone, at = walker.gone, walker.at
        walker.go((3, 4, 5))
        walker.undo()
        walker.undo()
        self.assertEqual((gone, at), (((1, 2, 3),), (1, 2, 3)))

    def test_properties_are_not_set(self):
        walker = Walker()
        for name in ("at", "gone"):
            with self.assertRaises(AttributeError):
                setattr(walker, name, ())


class TrialTest(WalkerCase):
    def test_all_short_trials(self):
        # "(" begins a trial, ")" ends it, "!" ends it by an exception; by one object for all of them, or by many.
        for signs in itertools.product("gu()!", repeat=6):
            if is_nested(signs):
                for shared in (False, True):
                    walker, gone = Walker(), [(1, 2, 3)]
                    walker.go((1, 2, 3))
                    trial = walker.trial()
                    self.run_signs(list(signs), walker, gone, (lambda: trial) if shared else walker.trial)
                    self.stands(walker, gone)

    def run_signs(self, signs, walker, gone, trial):
        """Does what the signs tell, up to the end of a block, and keeps the list of moves at it."""
        while signs:
            sign = signs.pop(0)
            if sign == "g":
                gone.append((len(signs), 1, len(gone)))
                self.assertEqual(walker.go(gone[-1]), end_of(gone))
            elif sign == "u" and gone:
                gone.pop()
                walker.undo()
            elif sign == "u":
                self.refuses(NothingToUndo, {}, walker.undo)
            elif sign == "(":
                before = list(gone)
                try:
                    with trial() as held:
                        self.assertIs(held, walker)
                        self.run_signs(signs, walker, gone, trial)
                except Stop as stop:
                    self.assertEqual(stop.args, (tuple(gone),))
                gone[:] = before
            elif sign == ")":
                return
            else:
                raise Stop(tuple(gone))
            self.stands(walker, gone)

    def test_the_walker_is_as_it_was(self):
        walker = Walker()
        walker.go((1, 0, 0))
        with walker.trial() as held:
            self.assertIs(held, walker)
            walker.undo()
            self.refuses(NothingToUndo, {}, walker.undo)
            walker.go((0, 1, 0))
            walker.go((5, 5, 5))
        self.stands(walker, [(1, 0, 0)])
        walker.undo()
        self.stands(walker, [])

    def test_exceptions_are_passed_on(self):
        walker = Walker()
        walker.go((1, 0, 0))
        for stop in (Stop("x"), KeyboardInterrupt(), SystemExit(3), NothingToUndo(), GeneratorExit(), StopIteration()):
            with self.assertRaises(type(stop)) as caught:
                with walker.trial():
                    walker.go((0, 1, 0))
                    raise stop
            self.assertIs(caught.exception, stop)
            self.stands(walker, [(1, 0, 0)])

    def test_a_block_that_is_left(self):
        walker = Walker()
        for number in range(3):
            with walker.trial():
                walker.go((number, 1, 0))
                if number == 1:
                    continue
                if number == 2:
                    break
        self.stands(walker, [])

        def leave():
            with walker.trial():
                return walker.go((3, 4, 5))

        self.assertEqual(leave(), (3, 4, 5))
        self.stands(walker, [])

    def test_a_trial_begins_when_the_statement_begins(self):
        walker = Walker()
        trial = walker.trial()
        walker.go((1, 0, 0))
        with trial:
            walker.go((0, 1, 0))
        self.stands(walker, [(1, 0, 0)])
        walker.go((0, 0, 7))
        with trial:
            walker.undo()
            walker.undo()
        self.stands(walker, [(1, 0, 0), (0, 0, 7)])

    def test_one_object_for_statements_within_one_another(self):
        walker = Walker()
        trial = walker.trial()
        with trial as first:
            walker.go((1, 0, 0))
            with trial as second:
                walker.go((0, 1, 0))
                with trial, trial:
                    walker.undo()
                    walker.undo()
                    walker.go((9, 9, 9))
                self.stands(walker, [(1, 0, 0), (0, 1, 0)])
            self.stands(walker, [(1, 0, 0)])
            with self.assertRaises(Stop):
                with trial:
                    walker.undo()
                    raise Stop()
            self.stands(walker, [(1, 0, 0)])
        self.stands(walker, [])
        self.assertIs(first, walker)
        self.assertIs(second, walker)

    def test_trials_of_two_walkers(self):
        one, two = Walker(), Walker()
        with one.trial(), two.trial():
            one.go((1, 0, 0))
            two.go((0, 1, 0))
            with one.trial():
                one.go((1, 0, 0))
                two.go((0, 1, 0))
            self.stands(one, [(1, 0, 0)])
            self.stands(two, [(0, 1, 0), (0, 1, 0)])
        self.stands(one, [])
        self.stands(two, [])

    def test_wrong_goings_within_trials(self):
        walker = Walker()
        walker.go((1, 0, 0))
        with walker.trial():
            walker.go((0, 1, 0))
            self.refuses(InvalidMove, {"given": None}, walker.go, None)
            self.stands(walker, [(1, 0, 0), (0, 1, 0)])
        self.stands(walker, [(1, 0, 0)])


class TriedTest(WalkerCase):
    def test_what_the_function_returns(self):
        walker = Walker()
        walker.go((1, 0, 0))
        for value in NOTHING:
            self.assertIs(walker.tried(lambda held: value), value)
        self.assertIs(walker.tried(lambda held: held), walker)
        self.assertEqual(walker.tried(lambda held: held.go((0, 1, 0))), (1, 1, 1))
        self.stands(walker, [(1, 0, 0)])

    def test_what_the_function_raises(self):
        walker = Walker()
        walker.go((1, 0, 0))
        stop = Stop()

        def action(held):
            held.undo()
            raise stop

        with self.assertRaises(Stop) as caught:
            walker.tried(action)
        self.assertIs(caught.exception, stop)
        self.stands(walker, [(1, 0, 0)])
        self.refuses(NothingToUndo, {}, Walker().tried, lambda held: held.undo())

    def test_trying_while_trying(self):
        walker = Walker()

        def action(held):
            held.go((1, 0, 0))
            inner = held.tried(lambda again: (again.go((0, 1, 0)), again.undo(), again.undo(), len(again)))
            return inner, held.gone

        self.assertEqual(walker.tried(action), (((1, 1, 1), None, None, 0), ((1, 0, 0),)))
        self.stands(walker, [])


class ObjectsTest(WalkerCase):
    def test_never_equal_to_another_one(self):
        one, two = Walker(), Walker()
        self.assertIs(one == two, False)
        self.assertIs(one != two, True)
        one.go((1, 0, 0))
        two.go((1, 0, 0))
        self.assertIs(one == two, False)
        self.assertIs(one == one, True)
        self.assertIs(one != one, False)
        for value in NOTHING + (0, (), one.gone, one.at, Walker, Equal()):
            self.assertIs(one == value, False)
            self.assertIs(one != value, True)

    def test_always_true(self):
        walker = Walker()
        self.assertIs(bool(walker), True)
        self.assertEqual(len(walker), 0)
        walker.go((0, 0, 0))
        self.assertIs(bool(walker), True)

    def test_walkers_share_nothing(self):
        one, two = Walker(), Walker()
        one.go((1, 0, 0))
        self.stands(two, [])
        self.stands(one, [(1, 0, 0)])


class WrongValuesTest(WalkerCase):
    def setUp(self):
        self.walker = Walker()
        self.walker.go((1, 2, 3))

    def unchanged(self):
        self.stands(self.walker, [(1, 2, 3)])

    def test_no_move(self):
        for value in NO_MOVES:
            self.refuses(InvalidMove, {"given": value}, self.walker.go, value)
            self.refuses(InvalidMove, {"given": value}, self.walker.go, move=value)
        self.unchanged()

    def test_no_lot(self):
        for value in NO_LOTS:
            self.refuses(NotLot, {"given": value}, self.walker.press, value, ())
            self.refuses(NotLot, {"given": value}, self.walker.press, plan=None, lot=value)
        self.unchanged()

    def test_no_plan(self):
        for value in NOTHING + (0, "", (0, 1), ((0, 0),), ((2, 1),), [(0, 1)], ((0, 1), (0, True))):
            self.refuses(InvalidPlan, {"given": value}, self.walker.press, STEPS, value)
        self.unchanged()


if __name__ == "__main__":
    unittest.main()
