"""Forms: all moves that a lot makes, told by an east, a north and a step, and what two lots have in common.

A basis is a form that has the plain move where the form has nothing.
"""

from math import gcd, lcm

from arealots.errors import InvalidPlan
from arealots.integers import combination, is_integer, net
from arealots.limits import MOST_DEPTH
from arealots.lots import need_lot
from arealots.moves import PLAIN, joined, need_move, repeated, undone


def form(lot):
    """The form of a lot: its east, its north and its step."""
    need_lot(lot)
    return _form_of(basis_of(lot.buttons))


def cosets(lot):
    """Into how many cosets all moves fall; None if there is no end of them."""
    need_lot(lot)
    return cosets_of(basis_of(lot.buttons))


def steady(lot):
    """Whether the lot, moved by each move, makes the same."""
    need_lot(lot)
    east, north, step = basis_of(lot.buttons)
    return all([_divides(step, number) for number in (east[0], east[1], north[1])])


def makes(lot, move):
    """Whether the lot makes the move."""
    need_lot(lot)
    need_move(move)
    return in_basis(basis_of(lot.buttons), move)


def plan(lot, move):
    """Any plan for the lot whose move it is; None if the lot does not make it."""
    need_lot(lot)
    need_move(move)
    buttons = lot.buttons
    east, north, pure = _basic_plans(buttons)
    counts = combination([_move_of_plan(buttons, part)[:2] for part in (east, north)], move[:2])
    if counts is None:
        return None
    begun = _times_each((east, north), counts)
    rest = joined(undone(_move_of_plan(buttons, begun)), move)
    times = combination([_move_of_plan(buttons, part)[2:] for part in pure], rest[2:])
    return None if times is None else begun + _times_each(pure, times)


def doing(lot, plan):
    """The move of a plan for the lot."""
    need_lot(lot)
    if not _is_plan(plan, len(lot), MOST_DEPTH):
        raise InvalidPlan(plan)
    return _move_of_plan(lot.buttons, plan)


def same(lot, other):
    """Whether both lots make the same."""
    need_lot(lot)
    need_lot(other)
    return basis_of(lot.buttons) == basis_of(other.buttons)


def within(lot, other):
    """Whether all that the first lot makes is made by the other one."""
    need_lot(lot)
    need_lot(other)
    basis = basis_of(other.buttons)
    return all([in_basis(basis, button) for button in lot.buttons])


def needless(lot):
    """The ascending indexes of the buttons that the other buttons make."""
    need_lot(lot)
    buttons = lot.buttons
    return tuple([index for index, button in enumerate(buttons)
                  if in_basis(basis_of(buttons[:index] + buttons[index + 1:]), button)])


def common(lot, other):
    """The form of the common part of both lots."""
    need_lot(lot)
    need_lot(other)
    return _form_of(_common_basis(basis_of(lot.buttons), basis_of(other.buttons)))


def classes(lot, other):
    """Into how many classes the moves of the other lot fall, by the first one; None if there is no end of them."""
    need_lot(lot)
    need_lot(other)
    whole = basis_of(other.buttons)
    return _parts(_sizes(_common_basis(basis_of(lot.buttons), whole)), _sizes(whole))


def moved(lot, other):
    """Any move by which the first lot, moved, makes the same as the other one; None if both are not alike."""
    need_lot(lot)
    need_lot(other)
    east, north, step = basis_of(lot.buttons)
    other_east, other_north, other_step = basis_of(other.buttons)
    if (east[:2], north[:2], step) != (other_east[:2], other_north[:2], other_step):
        return None
    # What a move (p, q, 0) adds to the areas is p * y - q * x; multiples of the step do not matter.
    added = [(east[1], north[1]), (-east[0], -north[0]), (step, 0), (0, step)]
    found = combination(added, (other_east[2] - east[2], other_north[2] - north[2]))
    return None if found is None else (found[0], found[1], 0)


def basis_of(moves):
    """The basis of all that the moves make."""
    east_plan, north_plan, pure_plans = _basic_plans(moves)
    east, north = _move_of_plan(moves, east_plan), _move_of_plan(moves, north_plan)
    step = 0
    for part in pure_plans:
        step = gcd(step, _move_of_plan(moves, part)[2])
    if north != PLAIN:
        east = joined(east, repeated(north, -(east[1] // north[1])))
    return (_with_area_below(east, step), _with_area_below(north, step), step)


def in_basis(basis, move):
    """Whether what has this basis makes the move."""
    east, north, step = basis
    counts = combination([east[:2], north[:2]], move[:2])
    if counts is None:
        return False
    reached = joined(repeated(east, counts[0]), repeated(north, counts[1]))
    return _divides(step, move[2] - reached[2])


def cosets_of(basis):
    """Into how many cosets all moves fall, by what has this basis; None if there is no end of them."""
    return _parts(_sizes(basis), (1, 1, 1))


def _divides(divisor, number):
    return number == 0 if divisor == 0 else number % divisor == 0


def _with_area_below(move, step):
    return move if step == 0 else (move[0], move[1], move[2] % step)


def _form_of(basis):
    east, north, step = basis
    return (() if east == PLAIN else east, () if north == PLAIN else north, step)


def _sizes(basis):
    east, north, step = basis
    return (east[0], north[1], step)


def _parts(sizes, whole_sizes):
    """How often what has these sizes goes into the whole; None if there is no end of it."""
    many = 1
    for size, whole_size in zip(sizes, whole_sizes):
        if whole_size != 0:
            if size == 0:
                return None
            many *= size // whole_size
    return many


def _basic_plans(moves):
    """Plans of an east and a north move, empty if there is none, and plans of pure moves: these make all."""
    (east, north), relations = net([move[:2] for move in moves], 2)
    indexes = list(range(len(moves)))
    east_plan = () if east is None else _times_each(indexes, east[2:])
    north_plan = () if north is None else _times_each(indexes, north[2:])
    pure_plans = [_times_each(indexes, counts) for counts in relations]
    if east_plan != () and north_plan != ():
        # All gaps of moves that are made are multiples of the gap of these two.
        pure_plans.append(((east_plan, 1), (north_plan, 1), (east_plan, -1), (north_plan, -1)))
    return east_plan, north_plan, pure_plans


def _times_each(parts, counts):
    """The plan that does each part so many times."""
    return tuple([(part, count) for part, count in zip(parts, counts) if count != 0])


def _move_of_plan(moves, parts):
    done = PLAIN
    for part, times in parts:
        move = moves[part] if is_integer(part) else _move_of_plan(moves, part)
        done = joined(done, repeated(move, times))
    return done


def _is_plan(value, buttons, depth):
    """Whether the value is a plan for so many buttons, with at most so many plans within one another."""
    if type(value) != tuple or depth == 0:
        return False
    return all([_is_pair(pair, buttons, depth) for pair in value])


def _is_pair(value, buttons, depth):
    if type(value) != tuple or len(value) != 2:
        return False
    part, times = value
    if not is_integer(times) or times == 0:
        return False
    if is_integer(part):
        return 0 <= part < buttons
    return _is_plan(part, buttons, depth - 1)


def _common_basis(first, second):
    """The basis of what both make, of their bases."""
    east, north, step = first
    other_east, other_north, other_step = second
    back = [(-move[0], -move[1]) for move in (other_east, other_north)]
    relations = net([east[:2], north[:2]] + back, 2)[1]
    # In pairs, moves of the first and of the other one that come to the same place, maybe with another area.
    firsts = [joined(repeated(east, counts[0]), repeated(north, counts[1])) for counts in relations]
    others = [joined(repeated(other_east, counts[2]), repeated(other_north, counts[3])) for counts in relations]
    differences = [(one[2] - two[2],) for one, two in zip(firsts, others)]
    # Done alike, both differ by the sum of the differences: it has to be made up for by multiples of the steps.
    # Not all pure moves that both make need to come of the others that both make: all of these are put in.
    made = [(0, 0, lcm(step, other_step))]
    for counts in net(differences + [(step,), (other_step,)], 1)[1]:
        made.append(_move_of_plan(firsts + [(0, 0, step)], _times_each(list(range(len(counts) - 1)), counts)))
    return basis_of(made)
