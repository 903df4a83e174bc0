"""Consoles: they keep moves under names, and answer lines."""

from arealots.errors import InvalidButtons
from arealots.forms import cosets, form, makes
from arealots.integers import FIGURES, integer_text
from arealots.lots import Lot
from arealots.moves import after, alike, gap, move_of, move_text

LETTERS = "abcdefghijklmnopqrstuvwxyz"
LONGEST_NAME = 8
NO_LINE = "no such line"
NO_LOT = "no lot"

# How many names stand behind each word; a word that is not in the second table may have any number more.
FEWEST_NAMES = {"drop": 1, "show": 1, "then": 1, "gap": 2, "alike": 2, "made": 2, "cosets": 1, "step": 1}
MOST_NAMES = {"drop": 1, "show": 1, "gap": 2, "alike": 2}


def is_name(value):
    """Whether the value is a name."""
    if type(value) != str or not 1 <= len(value) <= LONGEST_NAME:
        return False
    return value[0] in LETTERS and all([sign in LETTERS or sign in FIGURES for sign in value])


def _show(moves):
    return move_text(moves[0])


def _then(moves):
    return move_text(after(moves))


def _gap(moves):
    return integer_text(gap(moves[0], moves[1]))


def _alike(moves):
    return _yes_or_no(alike(moves[0], moves[1]) is not None)


def _made(moves):
    lot = _lot_of(moves[1:])
    return NO_LOT if lot is None else _yes_or_no(makes(lot, moves[0]))


def _cosets(moves):
    lot = _lot_of(moves)
    if lot is None:
        return NO_LOT
    many = cosets(lot)
    return "endless" if many is None else integer_text(many)


def _step(moves):
    lot = _lot_of(moves)
    return NO_LOT if lot is None else integer_text(form(lot)[2])


def _yes_or_no(value):
    return "yes" if value else "no"


def _lot_of(moves):
    """The lot of these moves; None if they are not those of a lot."""
    try:
        return Lot(moves)
    except InvalidButtons:
        return None


# What the words answer for the moves whose names stand behind them.
ANSWERS = {"show": _show, "then": _then, "gap": _gap, "alike": _alike, "made": _made, "cosets": _cosets, "step": _step}


class Console:
    """Answers lines; at first without moves."""

    def __init__(self):
        self._moves = {}
        # For each putting or dropping that was not taken back the name, and what stood under it before, if anything.
        self._before = []

    @property
    def names(self):
        """The ascending names of the moves."""
        return tuple(sorted(self._moves))

    def do(self, line):
        """The answer to a line."""
        if line == "undo":
            return self._undo()
        word, _, rest = line.partition(" ")
        if word == "move":
            return self._put(rest)
        names = rest.split(" ")
        if not _has_as_many(word, names):
            return NO_LINE
        if not all([name in self._moves for name in names]):
            return "no such move"
        if word == "drop":
            return self._drop(names[0])
        answer = ANSWERS[word]
        return answer(tuple([self._moves[name] for name in names]))

    def __eq__(self, other):
        return type(other) is Console and self is other

    def _put(self, rest):
        """The answer to what stands behind the word of a line that puts a move."""
        name, _, text = rest.partition(" ")
        if name == "" or text == "":
            return NO_LINE
        if not is_name(name):
            return "no name"
        move = move_of(text)
        if move is None:
            return "no move"
        self._before.append((name, self._moves.get(name)))
        self._moves[name] = move
        return "put"

    def _drop(self, name):
        self._before.append((name, self._moves[name]))
        del self._moves[name]
        return "dropped"

    def _undo(self):
        if len(self._before) == 0:
            return "nothing"
        name, move = self._before.pop()
        if move is None:
            del self._moves[name]
        else:
            self._moves[name] = move
        return "undone"


def _has_as_many(word, names):
    """Whether the word may have these names behind it, by how many they are; two spaces have no name between."""
    if word not in FEWEST_NAMES or "" in names:
        return False
    return FEWEST_NAMES[word] <= len(names) <= MOST_NAMES.get(word, len(names))
