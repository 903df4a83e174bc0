"""Lots: one to five buttons, with their text, what changes of its lines come to, and a basis of all that they make.

A basis is a triple (east, north, step) of which all comes that is made, as it does of a form. But it has the plain
move where a form has nothing, and its numbers need not be in the bounds of a form: so one lot has many bases.
"""

from arealots.errors import InvalidButtons, InvalidChanges, InvalidText, NotLot
from arealots.integers import is_integer, net, times_of
from arealots.limits import MOST_BUTTONS, MOST_NUMBER
from arealots.moves import PLAIN, is_move, joined, move_of, move_text, repeated

BUTTON = "button "


class Lot:
    """One to five buttons; it never changes."""

    def __init__(self, buttons):
        if type(buttons) != tuple or len(buttons) == 0:
            raise InvalidButtons(None)
        for index, button in enumerate(buttons):
            if index == MOST_BUTTONS or not _is_button(button):
                raise InvalidButtons(index)
        self._buttons = buttons
        self._text = "\n".join([BUTTON + move_text(button) for button in buttons])
        # Most questions at a lot rest on these. They are worked out here, so that no question changes the lot.
        self._plans = basic_plans(buttons)
        self._basis = _basis_by(buttons, self._plans)

    @classmethod
    def read(cls, text):
        """The lot with this text."""
        buttons = buttons_of(text)
        if buttons is None:
            raise InvalidText(text)
        return cls(buttons)

    @property
    def buttons(self):
        """The buttons, as they were passed."""
        return self._buttons

    @property
    def text(self):
        """A line for each button."""
        return self._text

    @property
    def plans(self):
        """The basic plans of the buttons."""
        return self._plans

    @property
    def basis(self):
        """The basis that the basic plans come to."""
        return self._basis

    def changed(self, changes):
        """The lot with these changes of its lines, all made at once."""
        if type(changes) != tuple:
            raise InvalidChanges(None)
        seen = set()
        for index, change in enumerate(changes):
            if not is_change(change, self) or change[0] in seen:
                raise InvalidChanges(index)
            seen.add(change[0])
        text = changed_text(self, changes)
        buttons = buttons_of(text)
        if buttons is None:
            raise InvalidText(text)
        return Lot(buttons)

    def __eq__(self, other):
        return type(other) is Lot and self._buttons == other._buttons

    def __len__(self):
        return len(self._buttons)

    def __str__(self):
        return str(self._text)

    def __repr__(self):
        return f"Lot of {len(self._buttons)} buttons"


def need_lot(value):
    """Raises NotLot if the value is no lot."""
    if type(value) is not Lot:
        raise NotLot(value)


def buttons_of(text):
    """The buttons of the lot with this text; None if the value is the text of none."""
    if type(text) != str:
        return None
    lines = text.split("\n")
    if len(lines) > MOST_BUTTONS:
        return None
    buttons = tuple([_button_of(line) for line in lines])
    return buttons if all([_is_button(button) for button in buttons]) else None


def is_change(value, lot):
    """Whether the value is a change of the lot."""
    if type(value) != tuple or len(value) != 2:
        return False
    index, new = value
    return is_integer(index) and 0 <= index < len(lot) and type(new) == str and "\n" not in new


def changed_text(lot, changes):
    """The text of the lot with these changes, each of another line."""
    lines = lot.text.split("\n")
    for index, new in changes:
        lines[index] = new
    return "\n".join([line for line in lines if line != ""])


def basic_plans(moves):
    """Plans of an east, a north and a pure move: of these comes all that the moves make. Empty ones are plain."""
    (east, north), relations = net([move[:2] for move in moves], 2)
    indexes = list(range(len(moves)))
    east_plan = () if east is None else times_each(indexes, east[2:])
    north_plan = () if north is None else times_each(indexes, north[2:])
    pure_plans = [times_each(indexes, counts) for counts in relations]
    if east_plan != () and north_plan != ():
        # All gaps of moves that are made are multiples of the gap of these two.
        pure_plans.append(((east_plan, 1), (north_plan, 1), (east_plan, -1), (north_plan, -1)))
    (least,), _ = net([move_of_plan(moves, pure)[2:] for pure in pure_plans], 1)
    step_plan = () if least is None else times_each(pure_plans, least[1:])
    return east_plan, north_plan, step_plan


def basis_of(moves):
    """A basis of all that the moves make."""
    return _basis_by(moves, basic_plans(moves))


def counts_in(basis, move):
    """How often the east, the north and the step come to the move, one behind another; None if they never do."""
    east, north, step = basis
    easts = times_of(move[0], east[0])
    if easts is None:
        return None
    reached = repeated(east, easts)
    norths = times_of(move[1] - reached[1], north[1])
    if norths is None:
        return None
    reached = joined(reached, repeated(north, norths))
    steps = times_of(move[2] - reached[2], step)
    return None if steps is None else (easts, norths, steps)


def in_basis(basis, move):
    """Whether what has this basis makes the move."""
    return counts_in(basis, move) is not None


def times_each(parts, counts):
    """The plan that does each part so many times."""
    return tuple([(part, count) for part, count in zip(parts, counts) if count != 0])


def move_of_plan(moves, plan):
    """The move of what is known to be a plan for a lot with these moves."""
    done = PLAIN
    for part, times in plan:
        move = moves[part] if is_integer(part) else move_of_plan(moves, part)
        done = joined(done, repeated(move, times))
    return done


def _basis_by(moves, plans):
    east, north, pure = [move_of_plan(moves, plan) for plan in plans]
    return east, north, pure[2]


def _is_button(value):
    return is_move(value) and all([-MOST_NUMBER <= number <= MOST_NUMBER for number in value])


def _button_of(line):
    return move_of(line.removeprefix(BUTTON)) if line.startswith(BUTTON) else None
