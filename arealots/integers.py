"""Integers: what is one, its text, greatest common divisors, and what vectors of integers come to."""

FIGURES = "0123456789"
BLOCK_LENGTH = 64
BLOCK = 10 ** 64


def is_integer(value):
    """Whether the value is an integer; True and False are none."""
    return type(value) == int


def integer_text(number):
    """The integer in decimal digits, with a minus sign ahead if it is negative."""
    # Python's own str refuses integers of more than 4300 digits; moves done often enough have such.
    rest = abs(number)
    blocks = []
    while rest >= BLOCK:
        rest, low = divmod(rest, BLOCK)
        blocks.append(str(low).zfill(BLOCK_LENGTH))
    blocks.append(str(rest))
    sign = "-" if number < 0 else ""
    return sign + "".join(blocks[::-1])


def read_integer(text):
    """The integer with this text; None if the string is the text of none."""
    figures = text.removeprefix("-")
    # Python's own int takes more than these figures: blanks, underscores, digits of other scripts.
    if not all([figure in FIGURES for figure in figures]):
        return None
    number = 0
    for figure in figures:
        number = 10 * number + int(figure)
    if figures != text:
        number = -number
    return number if integer_text(number) == text else None


def times_of(number, divisor):
    """How many times the divisor the number is; None if it is no multiple of it."""
    if divisor == 0:
        return 0 if number == 0 else None
    times, rest = divmod(number, divisor)
    return times if rest == 0 else None


def divisor_with_factors(first, second):
    """The greatest common divisor d of both, from 0 on, and p and q with d = p * first + q * second."""
    divisor, p, q = first, 1, 0
    rest, rest_p, rest_q = second, 0, 1
    while rest != 0:
        times = divisor // rest
        divisor, rest = rest, divisor - times * rest
        p, rest_p = rest_p, p - times * rest_p
        q, rest_q = rest_q, q - times * rest_q
    if divisor < 0:
        return -divisor, -p, -q
    return divisor, p, q


def net(vectors, width):
    """What the vectors come to, each some times, told by rows: a pair (pivots, relations).

    A row is what the vectors come to, with the factors by which they do behind its `width` numbers. The pivot of a
    place is the row that has the least number above 0 there and zeros ahead of it; None if there is no such row.
    The relations are factors by which the vectors come to zeros; all such factors are sums of these.
    """
    rows = [list(vector) + _unit(index, len(vectors)) for index, vector in enumerate(vectors)]
    pivots = []
    for place in range(width):
        pivot, rows = _pivot_and_rest(rows, place)
        pivots.append(pivot)
    return pivots, [row[width:] for row in rows]


def combination(vectors, target):
    """Factors by which the vectors come to the target; None if there are none."""
    width = len(target)
    pivots, _ = net(vectors, width)
    row = list(target) + [0] * len(vectors)
    for place, pivot in enumerate(pivots):
        if row[place] != 0:
            if pivot is None or row[place] % pivot[place] != 0:
                return None
            row = _less(row, row[place] // pivot[place], pivot)
    return [-factor for factor in row[width:]]


def _unit(index, length):
    return [1 if place == index else 0 for place in range(length)]


def _less(row, times, other):
    """The row, less so many times the other one."""
    return [number - times * less for number, less in zip(row, other)]


def _pivot_and_rest(rows, place):
    """The row that is left with a number above 0 at the place, None if none is, and all rows with 0 there."""
    rest = [row for row in rows if row[place] == 0]
    left = [row for row in rows if row[place] != 0]
    # The least one is taken from all others at once: so the factors stay about as small as the numbers allow.
    while len(left) > 1:
        least = _index_of_least(left, place)
        pivot = left[least]
        shorter = [_less(row, _nearest(row[place], pivot[place]), pivot)
                   for index, row in enumerate(left) if index != least]
        rest.extend([row for row in shorter if row[place] == 0])
        left = [pivot] + [row for row in shorter if row[place] != 0]
    if not left:
        return None, rest
    pivot = left[0]
    return (pivot if pivot[place] > 0 else [-number for number in pivot]), rest


def _index_of_least(rows, place):
    least = 0
    for index, row in enumerate(rows):
        if abs(row[place]) < abs(rows[least][place]):
            least = index
    return least


def _nearest(number, divisor):
    """The integer that is nearest to the quotient."""
    return (2 * number + divisor) // (2 * divisor)
