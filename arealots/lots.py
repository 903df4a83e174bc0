"""Lots: one to five buttons, with their text and what changes of its lines come to."""

from arealots.errors import InvalidButtons, InvalidChanges, InvalidText, NotLot
from arealots.integers import is_integer
from arealots.limits import MOST_BUTTONS, MOST_NUMBER
from arealots.moves import is_move, move_of, move_text

BUTTON = "button "


class Lot:
    """One to five buttons; it never changes."""

    def __init__(self, buttons):
        if type(buttons) != tuple or len(buttons) == 0:
            raise InvalidButtons(None)
        for index, button in enumerate(buttons):
            if index == MOST_BUTTONS or not _is_button(button):
                raise InvalidButtons(index)
        self._buttons = buttons
        self._text = "\n".join([BUTTON + move_text(button) for button in buttons])

    @classmethod
    def read(cls, text):
        """The lot with this text."""
        buttons = buttons_of(text)
        if buttons is None:
            raise InvalidText(text)
        return cls(buttons)

    @property
    def buttons(self):
        """The buttons, as they were passed."""
        return self._buttons

    @property
    def text(self):
        """A line for each button."""
        return self._text

    def changed(self, changes):
        """The lot with these changes of its lines, all made at once."""
        if type(changes) != tuple:
            raise InvalidChanges(None)
        seen = set()
        for index, change in enumerate(changes):
            if not is_change(change, self) or change[0] in seen:
                raise InvalidChanges(index)
            seen.add(change[0])
        text = changed_text(self, changes)
        buttons = buttons_of(text)
        if buttons is None:
            raise InvalidText(text)
        return Lot(buttons)

    def __eq__(self, other):
        return type(other) is Lot and self._buttons == other._buttons

    def __len__(self):
        return len(self._buttons)

    def __str__(self):
        return str(self._text)

    def __repr__(self):
        return f"Lot of {len(self._buttons)} buttons"


def need_lot(value):
    """Raises NotLot if the value is no lot."""
    if type(value) is not Lot:
        raise NotLot(value)


def buttons_of(text):
    """The buttons of the lot with this text; None if the value is the text of none."""
    if type(text) != str:
        return None
    lines = text.split("\n")
    if len(lines) > MOST_BUTTONS:
        return None
    buttons = tuple([_button_of(line) for line in lines])
    return buttons if all([_is_button(button) for button in buttons]) else None


def is_change(value, lot):
    """Whether the value is a change of the lot."""
    if type(value) != tuple or len(value) != 2:
        return False
    index, new = value
    return is_integer(index) and 0 <= index < len(lot) and type(new) == str and "\n" not in new


def changed_text(lot, changes):
    """The text of the lot with these changes, each of another line."""
    lines = lot.text.split("\n")
    for index, new in changes:
        lines[index] = new
    return "\n".join([line for line in lines if line != ""])


def _is_button(value):
    return is_move(value) and all([-MOST_NUMBER <= number <= MOST_NUMBER for number in value])


def _button_of(line):
    return move_of(line.removeprefix(BUTTON)) if line.startswith(BUTTON) else None
