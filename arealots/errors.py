"""The errors: three base classes, and under each the classes of which it is the only base."""


class WrongValue(ValueError):
    """An argument is not of the kind that is asked for."""


class InvalidText(WrongValue):
    """A string is not the text of what it is read as."""

    def __init__(self, given):
        self.given = given


class InvalidName(WrongValue):
    """A value is no name."""

    def __init__(self, given):
        self.given = given


class InvalidIndex(WrongValue):
    """A value is no index of what it is to point at."""

    def __init__(self, given):
        self.given = given


class InvalidNumber(WrongValue):
    """A value is no integer, or one out of bounds."""

    def __init__(self, given):
        self.given = given


class InvalidMove(WrongValue):
    """A value is no move."""

    def __init__(self, given):
        self.given = given


class InvalidWalk(WrongValue):
    """A value is no walk, or not one that is asked for."""

    def __init__(self, given):
        self.given = given


class InvalidPlan(WrongValue):
    """A value is no plan for the lot."""

    def __init__(self, given):
        self.given = given


class InvalidWish(WrongValue):
    """A value is no wish."""

    def __init__(self, given):
        self.given = given


class NotLot(WrongValue):
    """A value is no lot."""

    def __init__(self, given):
        self.given = given


class InvalidButtons(WrongValue):
    """A value is no tuple of buttons."""

    def __init__(self, index):
        self.index = index


class InvalidMoves(WrongValue):
    """A value is no tuple of moves."""

    def __init__(self, index):
        self.index = index


class InvalidChanges(WrongValue):
    """A value is no tuple of changes."""

    def __init__(self, index):
        self.index = index


class InvalidWishes(WrongValue):
    """A value is no tuple of wishes."""

    def __init__(self, index):
        self.index = index


class WrongName(LookupError):
    """A name does not fit what is there."""


class UnknownName(WrongName):
    """Nothing is there under this name."""

    def __init__(self, given):
        self.given = given


class InUse(WrongName):
    """What has this name is needed by the wish with the index."""

    def __init__(self, index):
        self.index = index


class NotPossible(ArithmeticError):
    """What is asked for is not to be had."""


class NoWalk(NotPossible):
    """No direct walk is of the move."""


class NothingToUndo(NotPossible):
    """There is nothing that could be taken back."""


class Broken(NotPossible):
    """The wish with the index would not hold."""

    def __init__(self, index):
        self.index = index
