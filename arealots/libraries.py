"""Libraries: they keep lots under names, with wishes that hold after each change."""

from arealots.consoles import is_name
from arealots.errors import Broken, InUse, InvalidIndex, InvalidName, NothingToUndo, UnknownName
from arealots.integers import is_integer
from arealots.lots import need_lot
from arealots.mends import holds


class State:
    """What a library has at a time, and the state before the last change; a state never changes."""

    def __init__(self, lots, wished, earlier):
        self.lots = lots
        self.wished = wished
        self.earlier = earlier
        self.number = 0 if earlier is None else earlier.number + 1


class KeptState:
    """The state of a library when a trial began, and what the same object of a trial kept before that."""

    def __init__(self, state, earlier):
        self.state = state
        self.earlier = earlier


class LibraryTrial:
    """For with statements: if the block ends with an exception, the library is as it was when the statement began."""

    def __init__(self, library):
        self._library = library
        self._kept = None

    def __enter__(self):
        library = self._library
        self._kept = KeptState(library._state, self._kept)
        return library

    def __exit__(self, kind, value, trace):
        library = self._library
        if kind is not None:
            library._state = self._kept.state
        self._kept = self._kept.earlier


class Library:
    """Lots under names, and wishes, each for one of the names."""

    def __init__(self):
        self._state = State({}, (), None)

    @property
    def names(self):
        """The ascending names of the lots."""
        return tuple(sorted(self._state.lots))

    @property
    def wishes(self):
        """The pairs (name, wish), in order."""
        return self._state.wished

    @property
    def changes(self):
        """How many changes can be taken back."""
        return self._state.number

    def remove(self, name):
        """Takes the lot with this name away, if no wish is for it."""
        self._need_name(name)
        for index, (wished_name, _) in enumerate(self._state.wished):
            if wished_name == name:
                raise InUse(index)
        lots = dict(self._state.lots)
        del lots[name]
        self._change(lots, self._state.wished)

    def wish(self, name, wish):
        """Puts a wish for the lot with this name behind the others."""
        self._need_name(name)
        if not holds(self._state.lots[name], wish):
            raise Broken(len(self._state.wished))
        self._change(self._state.lots, self._state.wished + ((name, wish),))

    def lift(self, index):
        """Takes the wish with this index away."""
        wished = self._state.wished
        if not is_integer(index) or not 0 <= index < len(wished):
            raise InvalidIndex(index)
        self._change(self._state.lots, wished[:index] + wished[index + 1:])

    def undo(self):
        """Takes back the last change that was not taken back."""
        if self._state.earlier is None:
            raise NothingToUndo()
        self._state = self._state.earlier

    def trial(self):
        """An object for with statements: behind a block that ends with an exception the library is as before it."""
        return LibraryTrial(self)

    def tried(self, action):
        """What the function returns for the library, called within such a statement."""
        with self.trial() as library:
            return action(library)

    def __getitem__(self, at):
        self._need_name(at)
        return self._state.lots[at]

    def __setitem__(self, at, worth):
        if not is_name(at):
            raise InvalidName(at)
        need_lot(worth)
        # The wishes for other names hold, as their lots are as they were.
        for index, (name, wish) in enumerate(self._state.wished):
            if name == at and not holds(worth, wish):
                raise Broken(index)
        lots = dict(self._state.lots)
        lots[at] = worth
        self._change(lots, self._state.wished)

    def __contains__(self, x):
        return type(x) == str and x in self._state.lots

    def __iter__(self):
        raise TypeError("a library is not gone through")

    def __len__(self):
        return len(self._state.lots)

    def __bool__(self):
        return True

    def __eq__(self, other):
        return type(other) is Library and self is other

    def _need_name(self, name):
        """Raises UnknownName if there is no lot with this name."""
        if name not in self:
            raise UnknownName(name)

    def _change(self, lots, wished):
        self._state = State(lots, wished, self._state)
