"""Integers: what is one, its text, and the greatest common divisor of two with its factors."""

FIGURES = "0123456789"
BLOCK_LENGTH = 64
BLOCK = 10 ** 64


def is_integer(value):
    """Whether the value is an integer; True and False are none."""
    return type(value) == int


def integer_text(number):
    """The integer in decimal digits, with a minus sign ahead if it is negative."""
    # Python's own str refuses integers of more than 4300 digits; moves done often enough have such.
    rest = abs(number)
    blocks = []
    while rest >= BLOCK:
        rest, low = divmod(rest, BLOCK)
        blocks.append(str(low).zfill(BLOCK_LENGTH))
    blocks.append(str(rest))
    sign = "-" if number < 0 else ""
    return sign + "".join(blocks[::-1])


def read_integer(text):
    """The integer with this text; None if the string is the text of none."""
    figures = text.removeprefix("-")
    # Python's own int takes more than these figures: blanks, underscores, digits of other scripts.
    if not all([figure in FIGURES for figure in figures]):
        return None
    number = 0
    for figure in figures:
        number = 10 * number + int(figure)
    if figures != text:
        number = -number
    return number if integer_text(number) == text else None


def divisor_with_factors(first, second):
    """The greatest common divisor d of both, from 0 on, and p and q with d = p * first + q * second."""
    divisor, p, q = first, 1, 0
    rest, rest_p, rest_q = second, 0, 1
    while rest != 0:
        times = divisor // rest
        divisor, rest = rest, divisor - times * rest
        p, rest_p = rest_p, p - times * rest_p
        q, rest_q = rest_q, q - times * rest_q
    if divisor < 0:
        return -divisor, -p, -q
    return divisor, p, q
