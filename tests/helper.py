"""What the tests share: values that are wrong almost everywhere, errors that are caught, and examples."""

import unittest


def nested(depth):
    value = 0
    for _ in range(depth):
        value = (value,)
    return value


class Strange:
    """Answers every question about itself with an error."""

    def __eq__(self, other):
        raise RuntimeError("compared")

    def __len__(self):
        raise RuntimeError("measured")

    def __bool__(self):
        raise RuntimeError("tested")

    def __iter__(self):
        raise RuntimeError("gone through")

    def __getattr__(self, name):
        raise RuntimeError("asked")

    def __repr__(self):
        raise RuntimeError("shown")


# Neither moves, nor integers, nor texts, walks or tuples of moves.
NOTHING = (
    None, True, False, [], [1, 2, 3], [(1, 2, 3)], {}, {"a": 1}, {1, 2}, frozenset({1, 2, 3}), b"", b"1 2 3", b"en",
    range(3), object(), Strange(), int, len, ValueError("x"), nested(20), (Strange(), Strange(), Strange()),
)

NO_MOVES = NOTHING + (
    0, 1, 10 ** 30, "", "1 2 3", (), (1,), (1, 2), (1, 2, 3, 4), (1, 2, True), (False, 2, 3), (1, True, 3),
    (None, 2, 3), (1, "2", 3), (1, 2, (3,)), (1, 2, [3]), ((1, 2, 3),), ((1, 2, 3), (1, 2, 3), (1, 2, 3)), [1, 2],
)

NO_INTEGERS = NOTHING + ("", "1", "0", (), (1,), (1, 2, 3), [0])


class Case(unittest.TestCase):
    """A test case that can ask for an error by its class and its attributes."""

    def refuses(self, error, attributes, call, *args, **more):
        with self.assertRaises(error) as caught:
            call(*args, **more)
        self.assertIs(caught.exception.__class__, error)
        found = vars(caught.exception)
        self.assertEqual(sorted(found), sorted(attributes))
        for name, value in attributes.items():
            # The very value that was passed: some of them can't be compared.
            if found[name] is not value:
                self.assertEqual((type(found[name]), found[name]), (type(value), value))

    def follows(self, text):
        """Runs the lines behind >>> and compares what they give with the lines below them."""
        names = {}
        for part in text.strip().split(">>> ")[1:]:
            line, _, told = part.strip().partition("\n")
            try:
                found = repr(eval(line, names))
            except SyntaxError:
                exec(line, names)
                found = ""
            except Exception as e:
                attributes = ", ".join(f"{name}={value!r}" for name, value in vars(e).items())
                found = f"raises {type(e).__name__}({attributes})"
            self.assertEqual(found, told, line)
