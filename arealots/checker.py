"""The checker: whether a certificate shows what a claim tells, by the certificate alone."""

from arealots.forms import is_plan
from arealots.integers import is_integer
from arealots.lots import buttons_of, in_basis, move_of_plan
from arealots.moves import PLAIN, is_move, moved_by, repeated, undone


def _shows_makes(text, move, plan):
    buttons = buttons_of(text)
    return buttons is not None and is_move(move) and _comes_to(buttons, plan, move)


def _shows_misses(text, move, form):
    buttons = buttons_of(text)
    if buttons is None or not is_move(move) or not _is_form(form):
        return False
    basis = (form[0] or PLAIN, form[1] or PLAIN, form[2])
    return all([in_basis(basis, button) for button in buttons]) and not in_basis(basis, move)


def _shows_same(text, other_text, pair):
    buttons, others = buttons_of(text), buttons_of(other_text)
    if buttons is None or others is None or not _is_tuple_of(pair, 2):
        return False
    return _come_to_all(buttons, pair[0], others) and _come_to_all(others, pair[1], buttons)


def _shows_moved(text, other_text, triple):
    buttons, others = buttons_of(text), buttons_of(other_text)
    if buttons is None or others is None or not _is_tuple_of(triple, 3) or not is_move(triple[0]):
        return False
    # A plan's move, moved, is a button exactly if it is that button, moved by the move undone.
    move, back = triple[0], undone(triple[0])
    return (_come_to_all(buttons, triple[1], [moved_by(back, button) for button in others])
            and _come_to_all(others, triple[2], [moved_by(move, button) for button in buttons]))


def _shows_alike(move, second, by):
    return all([is_move(value) for value in (move, second, by)]) and moved_by(by, move) == second


def _shows_root(move, times, root):
    if not is_move(move) or not is_integer(times) or times < 1:
        return False
    return is_move(root) and repeated(root, times) == move


# For each word the function that takes the rest of the claim and the certificate.
SHOWS = {"makes": _shows_makes, "misses": _shows_misses, "same": _shows_same, "moved": _shows_moved,
         "alike": _shows_alike, "root": _shows_root}


def accepts(claim, certificate):
    """Whether the one is a claim for the checker, and the other one is a certificate for it."""
    if not _is_tuple_of(claim, 3) or type(claim[0]) != str or claim[0] not in SHOWS:
        return False
    shows = SHOWS[claim[0]]
    return shows(claim[1], claim[2], certificate)


def _is_tuple_of(value, many):
    return type(value) == tuple and len(value) == many


def _comes_to(buttons, plan, move):
    """Whether the value is a plan for these buttons, with this move."""
    return is_plan(plan, len(buttons)) and move_of_plan(buttons, plan) == move


def _come_to_all(buttons, plans, moves):
    """Whether the value is a tuple of plans for these buttons, one for each of the moves, in order."""
    if not _is_tuple_of(plans, len(moves)):
        return False
    return all([_comes_to(buttons, plan, move) for plan, move in zip(plans, moves)])


def _is_form(value):
    """Whether the value is a triple with all that is told of the numbers of a form."""
    if not _is_tuple_of(value, 3):
        return False
    east, north, step = value
    if not _is_end(east) or not _is_end(north) or not is_integer(step) or step < 0:
        return False
    if step > 0 and not all([0 <= end[2] < step for end in (east, north) if end != ()]):
        return False
    if east != () and east[0] <= 0:
        return False
    if north != () and (north[0] != 0 or north[1] <= 0):
        return False
    # With both, gaps of moves are multiples of a * d: these are made only if the step divides them.
    return east == () or north == () or (0 <= east[1] < north[1] and step > 0 and east[0] * north[1] % step == 0)


def _is_end(value):
    """Whether the value is a move, or is empty."""
    return is_move(value) or _is_tuple_of(value, 0)
