import inspect
import itertools
import unittest
from math import comb

from arealots import walks as module
from arealots.errors import InvalidIndex, InvalidMove, InvalidNumber, InvalidWalk, NoWalk
from arealots.walks import direct_walk, direct_walks, place_of, walked, walks
from tests.helper import NO_INTEGERS, NO_MOVES, NOTHING, Case

BIG = 10 ** 30
PARAMETERS = {"walked": ["walk"], "walks": ["steps", "move"], "direct_walks": ["move"],
              "direct_walk": ["move", "index"], "place_of": ["walk"]}


def swept(walk):
    """The move of a walk, by going its steps on squared paper."""
    x = y = area = 0
    for letter in walk:
        x += {"e": 1, "w": -1}.get(letter, 0)
        up = {"n": 1, "s": -1}.get(letter, 0)
        y += up
        area += x * up
    return (x, y, area)


def sorted_by_move(letters, steps):
    """For each move, all walks of so many steps that are of it, in order as strings."""
    found = {}
    for signs in itertools.product(sorted(letters), repeat=steps):
        found.setdefault(swept(signs), []).append("".join(signs))
    return found


def counts_of_moves(steps):
    """For each move that walks of so many steps are of, how many these are."""
    found = {(0, 0, 0): 1}
    for _ in range(steps):
        longer = {}
        for (x, y, area), many in found.items():
            for u, v in ((1, 0), (0, 1), (-1, 0), (0, -1)):
                end = (x + u, y + v, area + x * v)
                longer[end] = longer.get(end, 0) + many
        found = longer
    return found


class ExamplesTest(Case):
    def test_examples(self):
        self.follows("""
>>> from arealots.walks import direct_walk, direct_walks, place_of, walked, walks
>>> [walked("enws"), walked("eenn"), walked(""), walks(4, (0, 0, 1)), walks(4, (0, 0, 0)), walks(3, (1, 0, 1)), walks(0, (0, 0, 0))]
[(0, 0, 1), (2, 2, 4), (0, 0, 0), 4, 28, 1, 1]
>>> [[direct_walks((2, 2, area)) for area in (0, 1, 2, 3, 4, 5)], direct_walk((2, 2, 2), 0), direct_walk((2, 2, 2), 1), place_of("neen"), direct_walks((-1, 0, 0)), direct_walks((3, 3, 4))]
[[1, 1, 2, 1, 1, 0], 'enne', 'neen', 1, 0, 3]
>>> direct_walk((2, 2, 5), 0)
raises NoWalk()
""")

    def test_parameters_by_position_and_by_name(self):
        for name, parameters in PARAMETERS.items():
            found = inspect.signature(getattr(module, name)).parameters.values()
            self.assertEqual([parameter.name for parameter in found], parameters)
            self.assertEqual({parameter.kind for parameter in found}, {inspect.Parameter.POSITIONAL_OR_KEYWORD})
            self.assertEqual(getattr(module, name).__module__, "arealots.walks")
        self.assertEqual(walked(walk="en"), (1, 1, 1))
        self.assertEqual(walks(move=(1, 1, 1), steps=2), 1)
        self.assertEqual(direct_walks(move=(1, 1, 1)), 1)
        self.assertEqual(direct_walk(index=0, move=(1, 1, 1)), "en")
        self.assertEqual(place_of(walk="ne"), 0)


class WalkedTest(Case):
    def test_all_short_walks(self):
        for steps in range(6):
            for signs in itertools.product("enws", repeat=steps):
                self.assertEqual(walked("".join(signs)), swept(signs))

    def test_long_walks(self):
        self.assertEqual(walked("e" * 2000 + "n" * 2000), (2000, 2000, 4000000))
        self.assertEqual(walked("enws" * 1000), (0, 0, 1000))
        self.assertEqual(walked("w" * 1000 + "n" * 1000 + "s" * 2000), (-1000, -1000, 1000000))

    def test_no_walks(self):
        for value in NOTHING + (0, 1, ("e",), ["e"], "E", "N", "en ", " en", "e n", "x", "enx", "xen", "en\n", "\n",
                                "e,n", "0", "enwsu"):
            self.refuses(InvalidWalk, {"given": value}, walked, value)


class WalksTest(Case):
    def test_against_all_strings(self):
        for steps in range(9):
            found = sorted_by_move("enws", steps)
            for x, y in itertools.product(range(-steps - 1, steps + 2), repeat=2):
                for area in range(-steps * steps // 4 - 2, steps * steps // 4 + 3):
                    self.assertEqual(walks(steps, (x, y, area)), len(found.get((x, y, area), ())))

    def test_all_moves_of_nine_steps(self):
        found = counts_of_moves(9)
        self.assertEqual(sum(found.values()), 4 ** 9)
        for move, many in found.items():
            self.assertEqual(walks(9, move), many)

    def test_closed_walks_by_their_areas(self):
        # Without the areas, closed walks of 2 * n steps are comb(2 * n, n) ** 2.
        for steps in (2, 8, 10, 12, 14, 16):
            found = [walks(steps, (0, 0, area)) for area in range(-17, 18)]
            self.assertEqual(found, found[::-1])
            self.assertEqual(sum(found), comb(steps, steps // 2) ** 2)

    def test_most_steps(self):
        self.assertEqual(walks(16, (16, 0, 0)), 1)
        self.assertEqual(walks(16, (8, 8, 64)), 1)
        self.assertEqual(walks(16, (8, 8, 63)), 1)
        self.assertEqual(walks(16, (8, 8, 65)), 0)
        self.assertEqual(walks(16, (15, 1, 7)), 1)
        self.assertEqual(walks(16, (0, 0, 16)), 16)
        self.assertEqual(walks(16, (0, 0, -16)), 16)
        self.assertEqual(walks(16, (1, 0, 0)), 0)

    def test_all_moves_of_sixteen_steps(self):
        found = counts_of_moves(16)
        self.assertEqual(sum(found.values()), 4 ** 16)
        for index, ((x, y, area), many) in enumerate(found.items()):
            if index % 10 == 0 or abs(area) > 60 or many == 1:
                self.assertEqual(walks(16, (x, y, area)), many)
            if index % 40 == 0:
                for move in ((x + 1, y, area), (x, y - 1, area), (x + 1, y + 1, area), (x, y, area + 7), (y, x, area)):
                    self.assertEqual(walks(16, move), found.get(move, 0))

    def test_moves_of_all_lengths(self):
        for steps in range(10, 16):
            found = counts_of_moves(steps)
            for move in list(found)[::97]:
                self.assertEqual(walks(steps, move), found[move])
                self.assertEqual(walks(steps - 1, move), 0)
                self.assertEqual(walks(steps, (move[0], move[1], move[2] + steps)),
                                 found.get((move[0], move[1], move[2] + steps), 0))

    def test_asked_again_and_in_another_order(self):
        asked = [(steps, (x, y, area)) for steps in (0, 1, 5, 8, 9) for x in range(-2, 3) for y in (-1, 0, 2)
                 for area in range(-3, 4)]
        told = [walks(steps, move) for steps, move in asked]
        self.assertEqual([walks(steps, move) for steps, move in asked], told)
        self.assertEqual([walks(steps, move) for steps, move in asked[::-1]], told[::-1])
        self.assertEqual([walks(move=move, steps=steps) for steps, move in asked[::2] + asked[1::2]],
                         told[::2] + told[1::2])

    def test_places_out_of_reach(self):
        for move in ((BIG, 0, 0), (0, -BIG, 0), (0, 0, BIG), (BIG, BIG, BIG), (17, 0, 0), (0, 0, 17)):
            for steps in (0, 1, 15, 16):
                self.assertEqual(walks(steps, move), 0)

    def test_no_steps(self):
        self.assertEqual(walks(0, (0, 0, 0)), 1)
        for move in ((0, 0, 1), (1, 0, 0), (0, -1, 0)):
            self.assertEqual(walks(0, move), 0)

    def test_wrong_steps(self):
        for value in NO_INTEGERS + (-1, 17, 18, -16, BIG, -BIG):
            self.refuses(InvalidNumber, {"given": value}, walks, value, (0, 0, 0))
            self.refuses(InvalidNumber, {"given": value}, walks, value, None)

    def test_no_move(self):
        for value in NO_MOVES:
            self.refuses(InvalidMove, {"given": value}, walks, 2, value)
            self.refuses(InvalidMove, {"given": value}, walks, 0, value)


class DirectWalksTest(Case):
    def test_against_all_gone_through(self):
        for steps in range(11):
            found = sorted_by_move("en", steps)
            for x in range(steps + 1):
                for area in range(-2, x * (steps - x) + 3):
                    move = (x, steps - x, area)
                    told = found.get(move, [])
                    self.assertEqual(direct_walks(move), len(told))
                    self.assertEqual([direct_walk(move, index) for index in range(len(told))], told)
                    self.assertEqual([place_of(walk) for walk in told], list(range(len(told))))

    def test_sums_over_all_areas(self):
        for x in range(25):
            found = [direct_walks((x, 24 - x, area)) for area in range(x * (24 - x) + 1)]
            self.assertEqual(sum(found), comb(24, x))
            self.assertEqual(found, found[::-1])

    def test_first_and_last_index_of_long_walks(self):
        for move in ((12, 12, 72), (12, 12, 71), (7, 17, 60), (23, 1, 11), (24, 0, 0), (0, 24, 0), (12, 12, 144)):
            many = direct_walks(move)
            places = sorted({0, many // 3, many // 2, many - 1})
            found = [direct_walk(move, index) for index in places]
            self.assertEqual(found, sorted(found))
            self.assertEqual([swept(walk) for walk in found], [move] * len(found))
            self.assertEqual([place_of(walk) for walk in found], places)
            self.refuses(InvalidIndex, {"given": many}, direct_walk, move, many)
            self.refuses(InvalidIndex, {"given": -1}, direct_walk, move, -1)

    def test_one_walk_behind_the_other(self):
        # Of the walks of one move no string stands between those with indexes next to each other.
        told = sorted("".join("e" if at in chosen else "n" for at in range(16))
                      for chosen in itertools.combinations(range(16), 8))
        told = [walk for walk in told if swept(walk) == (8, 8, 30)]
        self.assertEqual(direct_walks((8, 8, 30)), len(told))
        self.assertEqual([direct_walk((8, 8, 30), index) for index in range(len(told))], told)

    def test_the_empty_walk(self):
        self.assertEqual(direct_walks((0, 0, 0)), 1)
        self.assertEqual(direct_walk((0, 0, 0), 0), "")
        self.assertEqual(place_of(""), 0)
        self.assertEqual(direct_walks((0, 0, 1)), 0)
        self.refuses(InvalidIndex, {"given": 1}, direct_walk, (0, 0, 0), 1)
        self.refuses(NoWalk, {}, direct_walk, (0, 0, 1), 0)

    def test_areas_that_no_walk_has(self):
        for move in ((2, 2, -1), (2, 2, 5), (12, 12, -1), (12, 12, 145), (3, 3, BIG), (3, 3, -BIG), (24, 0, 1)):
            self.assertEqual(direct_walks(move), 0)
            self.refuses(NoWalk, {}, direct_walk, move, 0)

    def test_back_is_never_direct(self):
        for move in ((-1, 0, 0), (0, -1, 0), (-1, 1, 0), (1, -1, 0), (-1, 26, 0), (26, -1, 0), (-BIG, 3 * BIG, 0),
                     (2 * BIG, -1, 0), (-1, -1, 1), (-1, 25, -25)):
            self.assertEqual(direct_walks(move), 0)
            self.refuses(NoWalk, {}, direct_walk, move, 0)
            self.refuses(NoWalk, {}, direct_walk, move, None)

    def test_more_than_most_steps(self):
        for move in ((25, 0, 0), (0, 25, 0), (12, 13, 5), (13, 12, 10 ** 9), (20, 20, -1), (BIG, BIG, 0)):
            told = {"given": move[0] + move[1]}
            self.refuses(InvalidNumber, told, direct_walks, move)
            self.refuses(InvalidNumber, told, direct_walk, move, 0)
            self.refuses(InvalidNumber, told, direct_walk, move, None)
        self.assertEqual(direct_walks((24, 0, 0)), 1)
        self.assertEqual(direct_walks((12, 12, 144)), 1)

    def test_no_move(self):
        for value in NO_MOVES:
            self.refuses(InvalidMove, {"given": value}, direct_walks, value)
            self.refuses(InvalidMove, {"given": value}, direct_walk, value, 0)
            self.refuses(InvalidMove, {"given": value}, direct_walk, value, "x")

    def test_no_index(self):
        for value in NO_INTEGERS + (-1, 2, 3, BIG, -BIG):
            self.refuses(InvalidIndex, {"given": value}, direct_walk, (2, 2, 2), value)
            self.refuses(NoWalk, {}, direct_walk, (2, 2, 5), value)

    def test_no_place(self):
        for value in NOTHING + (0, ("e",), "w", "s", "enw", "sen", "E", "en ", "e n", "en\n", "x", "e" * 25, "n" * 25,
                                "en" * 13, "w" * 25, "e" * 4000):
            self.refuses(InvalidWalk, {"given": value}, place_of, value)
        self.assertEqual(place_of("e" * 24), 0)
        self.assertEqual(place_of("n" * 12 + "e" * 12), 0)


class EqualResultsTest(Case):
    def test_calls_answer_the_same_again(self):
        for _ in range(2):
            self.assertEqual(walks(10, (2, 2, 3)), walks(10, (2, 2, 3)))
            self.assertEqual(direct_walk((6, 6, 18), 40), direct_walk((6, 6, 18), 40))
            self.refuses(InvalidNumber, {"given": True}, walks, True, (1, 0, 0))
            self.assertEqual(walks(1, (1, 0, 0)), 1)
            self.refuses(InvalidMove, {"given": (True, False, False)}, walks, 1, (True, False, False))


if __name__ == "__main__":
    unittest.main()
