"""Forms: all moves that a lot makes, told by an east, a north and a step, and what two lots have in common."""

from math import lcm

from arealots.errors import InvalidPlan
from arealots.integers import combination, is_integer, net, times_of
from arealots.limits import MOST_DEPTH
from arealots.lots import basis_of, counts_in, in_basis, move_of_plan, need_lot, times_each
from arealots.moves import PLAIN, joined, need_move, repeated


def form(lot):
    """The form of a lot: its east, its north and its step."""
    need_lot(lot)
    return _form_of(lot.basis)


def cosets(lot):
    """Into how many cosets all moves fall; None if there is no end of them."""
    need_lot(lot)
    return cosets_of(lot.basis)


def steady(lot):
    """Whether the lot, moved by each move, makes the same."""
    need_lot(lot)
    east, north, step = lot.basis
    return all([times_of(number, step) is not None for number in (east[0], east[1], north[1])])


def makes(lot, move):
    """Whether the lot makes the move."""
    need_lot(lot)
    need_move(move)
    return in_basis(lot.basis, move)


def plan(lot, move):
    """Any plan for the lot whose move it is; None if the lot does not make it."""
    need_lot(lot)
    need_move(move)
    counts = counts_in(lot.basis, move)
    return None if counts is None else times_each(lot.plans, counts)


def doing(lot, plan):
    """The move of a plan for the lot."""
    need_lot(lot)
    if not is_plan(plan, len(lot)):
        raise InvalidPlan(plan)
    return move_of_plan(lot.buttons, plan)


def same(lot, other):
    """Whether both lots make the same."""
    need_lot(lot)
    need_lot(other)
    return _normal(lot.basis) == _normal(other.basis)


def within(lot, other):
    """Whether all that the first lot makes is made by the other one."""
    need_lot(lot)
    need_lot(other)
    return all([in_basis(other.basis, button) for button in lot.buttons])


def needless(lot):
    """The ascending indexes of the buttons that the other buttons make."""
    need_lot(lot)
    buttons = lot.buttons
    return tuple([index for index, button in enumerate(buttons)
                  if in_basis(basis_of(buttons[:index] + buttons[index + 1:]), button)])


def common(lot, other):
    """The form of the common part of both lots."""
    need_lot(lot)
    need_lot(other)
    return _form_of(_common_basis(lot.basis, other.basis))


def classes(lot, other):
    """Into how many classes the moves of the other lot fall, by the first one; None if there is no end of them."""
    need_lot(lot)
    need_lot(other)
    return _parts(_sizes(_common_basis(lot.basis, other.basis)), _sizes(other.basis))


def moved(lot, other):
    """Any move by which the first lot, moved, makes the same as the other one; None if both are not alike."""
    need_lot(lot)
    need_lot(other)
    east, north, step = _normal(lot.basis)
    other_east, other_north, other_step = _normal(other.basis)
    if (east[:2], north[:2], step) != (other_east[:2], other_north[:2], other_step):
        return None
    # What a move (p, q, 0) adds to the areas is p * y - q * x; multiples of the step do not matter.
    added = [(east[1], north[1]), (-east[0], -north[0]), (step, 0), (0, step)]
    found = combination(added, (other_east[2] - east[2], other_north[2] - north[2]))
    return None if found is None else (found[0], found[1], 0)


def is_plan(value, many):
    """Whether the value is a plan for a lot with so many buttons."""
    return _is_plan_within(value, many, MOST_DEPTH)


def cosets_of(basis):
    """Into how many cosets all moves fall, by what has this basis; None if there is no end of them."""
    return _parts(_sizes(basis), (1, 1, 1))


def _normal(basis):
    """The basis with all its numbers in the bounds of those of a form: what makes the same has the same one."""
    east, north, step = basis
    if north != PLAIN:
        east = joined(east, repeated(north, -(east[1] // north[1])))
    return (_with_area_below(east, step), _with_area_below(north, step), step)


def _with_area_below(move, step):
    return move if step == 0 else (move[0], move[1], move[2] % step)


def _form_of(basis):
    east, north, step = _normal(basis)
    return (() if east == PLAIN else east, () if north == PLAIN else north, step)


def _sizes(basis):
    east, north, step = basis
    return (east[0], north[1], step)


def _parts(sizes, whole_sizes):
    """How often what has these sizes goes into the whole; None if there is no end of it."""
    many = 1
    for size, whole_size in zip(sizes, whole_sizes):
        if whole_size != 0:
            if size == 0:
                return None
            many *= size // whole_size
    return many


def _is_plan_within(value, many, depth):
    """Whether the value is a plan for so many buttons, with at most so many plans within one another."""
    if type(value) != tuple or depth == 0:
        return False
    return all([_is_pair(pair, many, depth) for pair in value])


def _is_pair(value, many, depth):
    if type(value) != tuple or len(value) != 2:
        return False
    part, times = value
    if not is_integer(times) or times == 0:
        return False
    if is_integer(part):
        return 0 <= part < many
    return _is_plan_within(part, many, depth - 1)


def _common_basis(first, second):
    """The basis of what both make, of their bases."""
    east, north, step = first
    other_east, other_north, other_step = second
    back = [(-move[0], -move[1]) for move in (other_east, other_north)]
    relations = net([east[:2], north[:2]] + back, 2)[1]
    # In pairs, moves of the first and of the other one that come to the same place, maybe with another area.
    firsts = [joined(repeated(east, counts[0]), repeated(north, counts[1])) for counts in relations]
    others = [joined(repeated(other_east, counts[2]), repeated(other_north, counts[3])) for counts in relations]
    differences = [(one[2] - two[2],) for one, two in zip(firsts, others)]
    # Done alike, both differ by the sum of the differences: it has to be made up for by multiples of the steps.
    # Not all pure moves that both make need to come of the others that both make: all of these are put in.
    made = [(0, 0, lcm(step, other_step))]
    for counts in net(differences + [(step,), (other_step,)], 1)[1]:
        made.append(move_of_plan(firsts + [(0, 0, step)], times_each(list(range(len(counts) - 1)), counts)))
    return basis_of(made)
