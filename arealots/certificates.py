"""Certificates: claims for the checker, each with what shows that it is true."""

from arealots.forms import form, moved, plan, same
from arealots.moves import alike, moved_by, root, undone


def certify_made(lot, move):
    """The claim that the lot makes the move, with a plan; or that it misses the move, with the form of the lot."""
    found = plan(lot, move)
    if found is None:
        return ("misses", lot.text, move), form(lot)
    return ("makes", lot.text, move), found


def certify_same(lot, other):
    """The claim that both lots make the same, with plans for the buttons of both; None if it is not so."""
    if not same(lot, other):
        return None
    return ("same", lot.text, other.text), (_plans(lot, other.buttons), _plans(other, lot.buttons))


def certify_moved(lot, other):
    """The claim that both lots are alike, with a move and plans for the buttons of both; None if it is not so."""
    by = moved(lot, other)
    if by is None:
        return None
    # What a plan has to come to is a button of the one lot, moved to where the other one is.
    back = undone(by)
    plans = _plans(lot, [moved_by(back, button) for button in other.buttons])
    other_plans = _plans(other, [moved_by(by, button) for button in lot.buttons])
    return ("moved", lot.text, other.text), (by, plans, other_plans)


def certify_alike(move, second):
    """The claim that both moves are alike, with a move that shows it; None if it is not so."""
    by = alike(move, second)
    return None if by is None else (("alike", move, second), by)


def certify_root(move, times):
    """The claim that the move has such a root, with the root; None if it is not so."""
    found = root(move, times)
    return None if found is None else (("root", move, times), found)


def _plans(lot, moves):
    return tuple([plan(lot, move) for move in moves])
