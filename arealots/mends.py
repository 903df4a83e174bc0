"""Mends: wishes that a lot keeps or not, and the least sets of changes with which it keeps them."""

from arealots.errors import InvalidChanges, InvalidWish, InvalidWishes
from arealots.forms import cosets_of
from arealots.integers import is_integer
from arealots.limits import MOST_CHANGES
from arealots.lots import basis_of, buttons_of, changed_text, in_basis, is_change, need_lot
from arealots.moves import move_of

MOVE_WISHES = ("makes", "misses")
NUMBER_WISHES = ("step", "cosets")


def holds(lot, wish):
    """Whether the wish holds for the lot."""
    need_lot(lot)
    if not is_wish(wish):
        raise InvalidWish(wish)
    return _holds_for(lot.basis, wish)


def mends(lot, wishes, changes):
    """All least sets of the changes that mend the lot for these wishes, each as its ascending indexes."""
    need_lot(lot)
    _need_wishes(wishes)
    _need_changes(changes, lot)
    found = []
    for chosen in _index_sets(len(changes)):
        # The smaller sets come first: what has none of the least ones in it has no part that mends the lot.
        if not any([_is_part(least, chosen) for least in found]):
            if _mend(lot, wishes, [changes[index] for index in chosen]):
                found.append(chosen)
    return tuple(found)


def is_wish(value):
    """Whether the value is a wish."""
    if type(value) != tuple or len(value) != 2 or type(value[0]) != str:
        return False
    kind, told = value
    if kind in MOVE_WISHES:
        return move_of(told) is not None
    return kind in NUMBER_WISHES and is_integer(told) and told >= 0


def _holds_for(basis, wish):
    kind, told = wish
    if kind == "step":
        return basis[2] == told
    if kind == "cosets":
        many = cosets_of(basis)
        return many is not None and many <= told
    return in_basis(basis, move_of(told)) == (kind == "makes")


def _need_wishes(wishes):
    if type(wishes) != tuple:
        raise InvalidWishes(None)
    for index, wish in enumerate(wishes):
        if not is_wish(wish):
            raise InvalidWishes(index)


def _need_changes(changes, lot):
    if type(changes) != tuple:
        raise InvalidChanges(None)
    for index, change in enumerate(changes):
        if index == MOST_CHANGES or not is_change(change, lot):
            raise InvalidChanges(index)


def _index_sets(length):
    """All sets of indexes below the length, ordered by how many these are, then ascending."""
    layer = [()]
    found = [()]
    for _ in range(length):
        layer = [chosen + (index,) for chosen in layer for index in range(length) if chosen == () or chosen[-1] < index]
        found.extend(layer)
    return found


def _is_part(part, whole):
    return all([index in whole for index in part])


def _mend(lot, wishes, changes):
    """Whether the changes are of different lines and mend the lot."""
    if len(set([change[0] for change in changes])) < len(changes):
        return False
    buttons = buttons_of(changed_text(lot, changes))
    if buttons is None:
        return False
    basis = basis_of(buttons)
    return all([_holds_for(basis, wish) for wish in wishes])
