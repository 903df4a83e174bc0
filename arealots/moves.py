"""Moves: their texts, and what comes of doing one then another, undoing one, and doing one often."""

from arealots.errors import InvalidMove, InvalidMoves, InvalidNumber, InvalidText
from arealots.integers import divisor_with_factors, integer_text, is_integer, read_integer

PLAIN = (0, 0, 0)


def is_move(value):
    """Whether the value is a triple of integers."""
    return type(value) == tuple and len(value) == 3 and all([is_integer(number) for number in value])


def need_move(value):
    """Raises InvalidMove if the value is no move."""
    if not is_move(value):
        raise InvalidMove(value)


def need_integer(value):
    """Raises InvalidNumber if the value is no integer."""
    if not is_integer(value):
        raise InvalidNumber(value)


def joined(move, second):
    """One move then the other, of two that are known to be moves."""
    return (move[0] + second[0], move[1] + second[1], move[2] + second[2] + move[0] * second[1])


def repeated(move, times):
    """So many times a move, of what are known to be a move and an integer."""
    east, north, area = move
    return (times * east, times * north, times * area + times * (times - 1) // 2 * east * north)


def moved_by(move, second):
    """The one move, then the second one, then the one undone, of two that are known to be moves."""
    return joined(joined(move, second), undone(move))


def move_of(text):
    """The move with this text; None if the value is the text of none."""
    if type(text) != str:
        return None
    move = tuple([read_integer(word) for word in text.split(" ")])
    return move if is_move(move) else None


def move_text(move):
    """The text of a move."""
    need_move(move)
    return " ".join([integer_text(number) for number in move])


def read_move(text):
    """The move with this text."""
    move = move_of(text)
    if move is None:
        raise InvalidText(text)
    return move


def then(move, second):
    """One move then the other."""
    need_move(move)
    need_move(second)
    return joined(move, second)


def undone(move):
    """The move that, then the given one, is plain."""
    need_move(move)
    east, north, area = move
    return (-east, -north, east * north - area)


def often(move, times):
    """So many times the move; below 0, as often the move undone."""
    need_move(move)
    need_integer(times)
    return repeated(move, times)


def after(moves):
    """All moves, one then the next, from the plain one on."""
    if type(moves) != tuple:
        raise InvalidMoves(None)
    for index, move in enumerate(moves):
        if not is_move(move):
            raise InvalidMoves(index)
    done = PLAIN
    for move in moves:
        done = joined(done, move)
    return done


def gap(move, second):
    """How much more area one move then the other has than the other then the one."""
    need_move(move)
    need_move(second)
    return move[0] * second[1] - move[1] * second[0]


def commute(move, second):
    """Whether both orders come to one move."""
    return gap(move, second) == 0


def alike(move, second):
    """Any move c such that c then the first, then c undone, is the second; None if there is none."""
    need_move(move)
    need_move(second)
    if move[:2] != second[:2]:
        return None
    east, north, area = move
    more = second[2] - area
    if more == 0:
        return PLAIN
    # What c = (p, q, 0) adds to the area is the gap of c and the move, p * north - q * east.
    divisor, p, q = divisor_with_factors(north, -east)
    if divisor == 0 or more % divisor != 0:
        return None
    times = more // divisor
    return (p * times, q * times, 0)


def root(move, times):
    """The move that comes to the given one so many times; None if there is none."""
    need_move(move)
    need_integer(times)
    if times < 1:
        raise InvalidNumber(times)
    east, north = move[0] // times, move[1] // times
    # The area that the steps of the root sweep by themselves is known; the rest has to be shared out.
    left = move[2] - repeated((east, north, 0), times)[2]
    found = (east, north, left // times)
    return found if repeated(found, times) == move else None
