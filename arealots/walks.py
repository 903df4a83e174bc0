"""Walks: their moves, how many there are of a move, and the direct ones by their places."""

from arealots.errors import InvalidIndex, InvalidNumber, InvalidWalk, NoWalk
from arealots.integers import is_integer
from arealots.limits import MOST_DIRECT, MOST_STEPS
from arealots.moves import PLAIN, joined, need_move

STEPS = {"e": (1, 0, 0), "n": (0, 1, 0), "w": (-1, 0, 0), "s": (0, -1, 0)}
LETTERS = "enws"
DIRECT_LETTERS = "en"

# All walks of sixteen steps are 2 ** 32; those of eight have no areas but from -16 to 16.
FIGURE_BITS = 40
HIGHEST_FIGURE = 2 ** 40 - 1
NO_AREA_PLACE = 16


def walked(walk):
    """The move of a walk."""
    if not _has_letters(walk, LETTERS):
        raise InvalidWalk(walk)
    return _move_of(walk)


def walks(steps, move):
    """How many walks with so many steps are of the move."""
    if not is_integer(steps) or not 0 <= steps <= MOST_STEPS:
        raise InvalidNumber(steps)
    need_move(move)
    if not _within_reach(steps, move):
        return 0
    # A walk is counted by its two halves: all moves of sixteen steps are too many to go through at once.
    half = steps // 2
    ahead = {(0, 0): 1 << FIGURE_BITS * NO_AREA_PLACE}
    for _ in range(half):
        ahead = _one_step_more(ahead)
    behind = ahead if 2 * half == steps else _one_step_more(ahead)
    return _count_of_both(ahead, behind, move)


def direct_walks(move):
    """How many direct walks are of the move."""
    need_move(move)
    east, north, area = move
    if east < 0 or north < 0:
        return 0
    if east + north > MOST_DIRECT:
        raise InvalidNumber(east + north)
    return _count(_direct_counts(east, north), move)


def direct_walk(move, index):
    """The direct walk with this index, of all that are of the move, in order as strings."""
    many = direct_walks(move)
    if many == 0:
        raise NoWalk()
    if not is_integer(index) or not 0 <= index < many:
        raise InvalidIndex(index)
    return _walk_at(move, index)


def place_of(walk):
    """The index of a direct walk among all that are of its move."""
    if not _has_letters(walk, DIRECT_LETTERS) or len(walk) > MOST_DIRECT:
        raise InvalidWalk(walk)
    rest = _move_of(walk)
    counts = _direct_counts(rest[0], rest[1])
    place = 0
    for letter in walk:
        if letter == "n":
            # All walks that go east here, to the same end, come earlier.
            place += _count(counts, _rest_behind("e", rest))
        rest = _rest_behind(letter, rest)
    return place


def _has_letters(value, letters):
    return type(value) == str and all([sign in letters for sign in value])


def _move_of(walk):
    done = PLAIN
    for letter in walk:
        done = joined(done, STEPS[letter])
    return done


def _within_reach(steps, move):
    """False for most moves that no walk with so many steps is of: these need no counting."""
    east, north, area = move
    spare = steps - abs(east) - abs(north)
    # With h steps east and west a walk is never further than h from its start: each other step sweeps h at most.
    return spare >= 0 and spare % 2 == 0 and 4 * abs(area) <= steps * steps


def _one_step_more(counts):
    """The counts of the walks that have one step more.

    Counts have, for each place (x, y), an integer that tells for all areas at once how many walks end there: each
    figure of FIGURE_BITS bits is the count of an area, NO_AREA_PLACE the place of the figure for the area 0.
    """
    longer = {}
    for (x, y), figures in counts.items():
        ends = (((x + 1, y), figures), ((x - 1, y), figures),
                ((x, y + 1), _lifted(figures, x)), ((x, y - 1), _lifted(figures, -x)))
        for end, more in ends:
            longer[end] = longer.get(end, 0) + more
    return longer


def _lifted(figures, area):
    """The figures, with so much more area for each walk."""
    return figures << FIGURE_BITS * area if area >= 0 else figures >> FIGURE_BITS * -area


def _count_of_both(ahead, behind, move):
    """How many walks of the one counts, each with one of the other counts behind it, are of the move."""
    east, north, area = move
    many = 0
    for (x, y), figures in ahead.items():
        others = behind.get((east - x, north - y), 0)
        # Figures of a product are counts of sums of areas; what goes north behind is lifted by what is ahead.
        place = 2 * NO_AREA_PLACE + area - x * (north - y)
        if others != 0 and place >= 0:
            many += (figures * others >> FIGURE_BITS * place) & HIGHEST_FIGURE
    return many


def _direct_counts(east, north):
    """For each x and y up to these, a list: how many direct walks have the areas 0, 1, up to x * y."""
    counts = {}
    for x in range(east + 1):
        for y in range(north + 1):
            if x == 0 or y == 0:
                counts[x, y] = [1]
            else:
                # A first step east is lifted by all y steps north behind it, a first step north by nothing.
                east_first = [0] * y + counts[x - 1, y]
                north_first = counts[x, y - 1] + [0] * x
                counts[x, y] = [one + other for one, other in zip(east_first, north_first)]
    return counts


def _count(counts, move):
    x, y, area = move
    if x < 0 or not 0 <= area <= x * y:
        return 0
    return counts[x, y][area]


def _rest_behind(letter, move):
    """What is left of the move of a direct walk behind its first step."""
    x, y, area = move
    if letter == "e":
        return (x - 1, y, area - y)
    return (x, y - 1, area)


def _walk_at(move, index):
    counts = _direct_counts(move[0], move[1])
    letters = []
    rest = move
    for _ in range(move[0] + move[1]):
        east_rest = _rest_behind("e", rest)
        east_first = _count(counts, east_rest)
        if index < east_first:
            letters.append("e")
            rest = east_rest
        else:
            letters.append("n")
            index -= east_first
            rest = _rest_behind("n", rest)
    return "".join(letters)
