"""What the tests share: values that are wrong almost everywhere, errors that are caught, examples, own reckonings."""

import inspect
import itertools
import unittest


def nested(depth):
    value = 0
    for _ in range(depth):
        value = (value,)
    return value


class Strange:
    """Answers every question about itself with an error."""

    def __eq__(self, other):
        raise RuntimeError("compared")

    def __len__(self):
        raise RuntimeError("measured")

    def __bool__(self):
        raise RuntimeError("tested")

    def __iter__(self):
        raise RuntimeError("gone through")

    def __getattr__(self, name):
        raise RuntimeError("asked")

    def __repr__(self):
        raise RuntimeError("shown")


class Equal:
    """Tells that it is equal to everything."""

    def __eq__(self, other):
        return True

    def __ne__(self, other):
        return False


# Neither moves, nor integers, nor texts, walks or tuples of moves.
NOTHING = (
    None, True, False, [], [1, 2, 3], [(1, 2, 3)], {}, {"a": 1}, {1, 2}, frozenset({1, 2, 3}), b"", b"1 2 3", b"en",
    range(3), object(), Strange(), int, len, ValueError("x"), nested(20), (Strange(), Strange(), Strange()),
)

NO_MOVES = NOTHING + (
    0, 1, 10 ** 30, "", "1 2 3", (), (1,), (1, 2), (1, 2, 3, 4), (1, 2, True), (False, 2, 3), (1, True, 3),
    (None, 2, 3), (1, "2", 3), (1, 2, (3,)), (1, 2, [3]), ((1, 2, 3),), ((1, 2, 3), (1, 2, 3), (1, 2, 3)), [1, 2],
)

NO_INTEGERS = NOTHING + ("", "1", "0", (), (1,), (1, 2, 3), [0])


NO_LOTS = NOTHING + (0, 1, "", "button 1 0 0", (), (1, 0, 0), ((1, 0, 0),), ((1, 0, 0), (0, 1, 0)), Equal())


class Stop(Exception):
    """Raised in blocks of trials by the tests alone."""


def is_nested(signs):
    """Whether there are trials, which begin with ( and end with ) or, by an exception, with !, in right order."""
    depth = 0
    for sign in signs:
        depth += {"(": 1, ")": -1, "!": -1}.get(sign, 0)
        if depth < 0:
            return False
    return depth == 0 and "(" in signs


def swept(move, second):
    """One move then the other, as the document tells it."""
    return (move[0] + second[0], move[1] + second[1], move[2] + second[2] + move[0] * second[1])


def back(move):
    """The move undone, as the document tells it."""
    return (-move[0], -move[1], move[0] * move[1] - move[2])


def many_times(move, times):
    """So many times the move, as the document tells it."""
    return (times * move[0], times * move[1], times * move[2] + times * (times - 1) // 2 * move[0] * move[1])


def depth_of(plan):
    """How many plans are within one another in a plan, the whole one counted."""
    return 1 + max([depth_of(part) for part, _ in plan if type(part) is tuple], default=0)


def done_by(buttons, plan):
    """The move of a plan by its pairs, of which all are looked at first."""
    at = (0, 0, 0)
    if type(plan) is not tuple or depth_of(plan) > 5:
        raise AssertionError(plan)
    for pair in plan:
        part, times = pair
        if type(pair) is not tuple or type(times) is not int or times == 0:
            raise AssertionError(pair)
        if type(part) is not tuple and (type(part) is not int or part < 0):
            raise AssertionError(part)
        move = done_by(buttons, part) if type(part) is tuple else buttons[part]
        at = swept(at, many_times(move, times))
    return at


def in_form(form, move):
    """Whether the move is m times the east, then n times the north, then k times the step, by the form."""
    east, north, step = form
    x, y, area = move
    at = (0, 0, 0)
    if east:
        if x % east[0]:
            return False
        at = many_times(east, x // east[0])
    elif x:
        return False
    if north:
        if (y - at[1]) % north[1]:
            return False
        at = swept(at, many_times(north, (y - at[1]) // north[1]))
    if at[1] != y:
        return False
    return (area - at[2]) % step == 0 if step else area == at[2]


def remainders(moves, modulus):
    """All that the moves make, by the remainders of its numbers: each move is gone on with until there is no new one.

    Moves of which all numbers are divided by the modulus are of one class with the plain one, so that this is a
    group again. It tells all that is made if the moves make all of those.
    """
    seen = {(0, 0, 0)}
    ahead = [(0, 0, 0)]
    while ahead:
        move = ahead.pop()
        for second in moves:
            end = tuple(number % modulus for number in swept(move, second))
            if end not in seen:
                seen.add(end)
                ahead.append(end)
    return frozenset(seen)


def all_remainders(modulus):
    return list(itertools.product(range(modulus), repeat=3))


def moved_remainders(move, made, modulus):
    """All that is made, moved by the move."""
    return frozenset(tuple(number % modulus for number in swept(swept(move, one), back(move))) for one in made)


def groups(modulus):
    """All groups of moves that make all those divided by the modulus: pairs (buttons, remainders)."""
    found = {}
    divisors = [number for number in range(1, modulus + 1) if modulus % number == 0]
    for east, north, step in itertools.product(divisors, divisors, divisors):
        for b, s, t in itertools.product(range(north), range(step), range(step)):
            buttons = ((east, b, s), (0, north, t), (0, 0, step), (modulus, 0, 0), (0, modulus, 0))
            found.setdefault(remainders(buttons, modulus), buttons)
    return [(buttons, made) for made, buttons in found.items()]


class Case(unittest.TestCase):
    """A test case that can ask for an error by its class and its attributes."""

    def has_parameters(self, call, parameters):
        """All parameters can be passed by position or by name, and have no defaults."""
        found = [parameter for parameter in inspect.signature(call).parameters.values()]
        self.assertEqual([parameter.name for parameter in found], parameters)
        self.assertLessEqual({parameter.kind for parameter in found}, {inspect.Parameter.POSITIONAL_OR_KEYWORD})
        self.assertLessEqual({parameter.default for parameter in found}, {inspect.Parameter.empty})

    def refuses(self, error, attributes, call, *args, **more):
        with self.assertRaises(error) as caught:
            call(*args, **more)
        self.assertIs(caught.exception.__class__, error)
        found = vars(caught.exception)
        self.assertEqual(sorted(found), sorted(attributes))
        for name, value in attributes.items():
            # The very value that was passed: some of them can't be compared.
            if found[name] is not value:
                self.assertEqual((type(found[name]), found[name]), (type(value), value))

    def shown(self, line, names):
        """What Python shows behind a line: nothing for a statement, and for None."""
        try:
            code = compile(line, "line", "eval")
        except SyntaxError:
            exec(line, names)
            return ""
        value = eval(code, names)
        return "" if value is None else repr(value)

    def follows(self, text):
        """Runs the lines behind >>> and compares what they give with the lines below them."""
        names = {}
        for part in text.strip().split(">>> ")[1:]:
            line, _, told = part.strip().partition("\n")
            try:
                found = self.shown(line, names)
            except Exception as e:
                attributes = ", ".join(f"{name}={value!r}" for name, value in vars(e).items())
                found = f"raises {type(e).__name__}({attributes})"
            self.assertEqual(found, told, line)
