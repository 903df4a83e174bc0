"""Walkers: they go by moves, take them back, and try them."""

from arealots.errors import NothingToUndo
from arealots.forms import doing
from arealots.moves import PLAIN, joined, need_move, undone


class Kept:
    """How a walker was when a trial began, and what the same object of a trial kept before that."""

    def __init__(self, moves, end, earlier):
        self.moves = moves
        self.end = end
        self.earlier = earlier


class Trial:
    """For with statements: when the block ends, the walker is as it was when the statement began."""

    def __init__(self, walker):
        self._walker = walker
        self._kept = None

    def __enter__(self):
        walker = self._walker
        self._kept = Kept(list(walker._gone), walker._at, self._kept)
        return walker

    def __exit__(self, kind, value, trace):
        walker = self._walker
        walker._gone = self._kept.moves
        walker._at = self._kept.end
        self._kept = self._kept.earlier


class Walker:
    """Goes by moves, from the plain move on, and can take them back."""

    def __init__(self):
        self._gone = []
        self._at = PLAIN

    @property
    def at(self):
        """The move of all that is done."""
        return self._at

    @property
    def gone(self):
        """The moves that were gone and not taken back."""
        return tuple(self._gone)

    def go(self, move):
        """Does the move then, and returns the move of all that is done."""
        need_move(move)
        self._gone.append(move)
        self._at = joined(self._at, move)
        return self._at

    def press(self, lot, plan):
        """Goes by the move of a plan for the lot."""
        return self.go(doing(lot, plan))

    def undo(self):
        """Takes back the last going that was not taken back."""
        if len(self._gone) == 0:
            raise NothingToUndo()
        self._at = joined(self._at, undone(self._gone.pop()))

    def trial(self):
        """An object for with statements, behind which the walker is as it was before."""
        return Trial(self)

    def tried(self, action):
        """What the function returns for the walker, called within such a statement."""
        with self.trial() as walker:
            return action(walker)

    def __eq__(self, other):
        return type(other) is Walker and self is other

    def __len__(self):
        return len(self._gone)

    def __bool__(self):
        return True
