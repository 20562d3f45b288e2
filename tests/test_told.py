"""corners, holes, rows, columns, name, state."""

import random
import unittest
from itertools import permutations

from tests.calling import all_glued, ask, ask_glued

TOLD = (("corners",), ("holes",), ("rows",), ("columns",), ("name",), ("state",))


class Begun(unittest.TestCase):
    def test_one_square(self):
        told = ask(("begin", 1), *TOLD)
        self.assertEqual(told, [[0], [1, 1], [1], [1, 1], [1, 1], [2, 0, 0], [1, 0, 0]])

    def test_one_row(self):
        told = ask(("begin", 4), *TOLD)
        ways = [1, 2, 3, 0, 0, 1, 2, 3]
        self.assertEqual(told, [[0], [4, 1, 1, 1, 1], [1], [1, 4], [4, 1, 1, 1, 1], [8] + ways, [4] + ways])


class Glued(unittest.TestCase):
    def test_three_squares(self):
        told = ask_glued([1, 0, 2], [2, 1, 0], *TOLD)
        self.assertEqual(told, [
            [1, 3], [2], [2, 2, 1], [2, 2, 1], [6, 0, 2, 1, 1, 0, 2], [3, 1, 0, 2, 2, 1, 0],
        ])

    def test_by_the_least_square(self):
        self.assertEqual(ask_glued([0, 2, 1, 4, 5, 3], [1, 0, 3, 2, 4, 5], ("rows",), ("columns",)),
                         [[3, 1, 2, 3], [4, 2, 2, 1, 1]])
        self.assertEqual(ask_glued([3, 2, 1, 4, 0, 5], [5, 4, 2, 3, 1, 0], ("rows",), ("columns",)),
                         [[3, 3, 2, 1], [4, 2, 2, 1, 1]])

    def test_corners_by_the_least_square(self):
        self.assertEqual(ask_glued([1, 0, 2, 3], [2, 1, 3, 0], ("corners",)), [[2, 3, 1]])
        self.assertEqual(ask_glued([0, 1, 3, 2], [1, 2, 0, 3], ("corners",)), [[2, 1, 3]])

    def test_corners_in_the_north_east(self):
        """Once round goes 0 to 0, 1 to 2, 2 to 3, 3 to 1; by any other corner of the squares 3 would come ahead of 1."""
        self.assertEqual(ask_glued([1, 2, 0, 3], [1, 2, 3, 0], ("corners",)), [[2, 1, 3]])

    def test_all_corners_plain(self):
        told = ask_glued([1, 2, 0, 4, 5, 3], [4, 5, 3, 0, 1, 2], *TOLD[:4])
        self.assertEqual(told, [[6, 1, 1, 1, 1, 1, 1], [1], [2, 3, 3], [1, 6]])

    def test_more_holes(self):
        self.assertEqual(ask_glued([1, 2, 3, 4, 0], [1, 0, 3, 2, 4], ("corners",), ("holes",)), [[1, 5], [3]])
        self.assertEqual(ask_glued([1, 0, 3, 2], [0, 2, 1, 3], ("corners",), ("holes",)), [[2, 2, 2], [2]])

    def test_all_small_ones(self):
        for many in (1, 2, 3, 4):
            for eastern, northern in all_glued(many):
                corners, holes, rows, columns, name, state = ask_glued(eastern, northern, *TOLD)
                for told in (corners, rows, columns):
                    self.assertEqual(told[0], len(told) - 1)
                    self.assertEqual(sum(told[1:]), many)
                self.assertEqual(2 * (holes[0] - 1), many - corners[0])
                self.assertEqual((name[0], len(name)), (2 * many, 2 * many + 1))
                self.assertEqual(state, [many] + eastern + northern)


class Name(unittest.TestCase):
    def named(self, eastern, northern, name):
        self.assertEqual(ask_glued(eastern, northern, ("name",)), [[len(name)] + name])

    def test_least_of_all_orders(self):
        self.named([0, 2, 1], [1, 0, 2], [0, 2, 1, 1, 0, 2])
        self.named([1, 0, 2], [0, 2, 1], [0, 2, 1, 1, 0, 2])

    def test_east_ahead_of_north_in_an_order(self):
        self.named([1, 2, 0], [2, 0, 1], [1, 2, 0, 2, 0, 1])

    def test_only_orders_from_squares(self):
        self.named([0, 1, 3, 2], [2, 3, 0, 1], [0, 2, 1, 3, 1, 0, 3, 2])

    def test_in_turn_not_in_depth(self):
        self.named([1, 0, 3, 2], [2, 3, 0, 1], [1, 0, 3, 2, 2, 3, 0, 1])

    def test_the_same_but_for_names(self):
        """Renamed in whatever way it keeps its name; its name's own name is itself."""
        for eastern, northern in all_glued(3):
            name = ask_glued(eastern, northern, ("name",))[0]
            self.assertEqual(ask_glued(name[1:4], name[4:], ("name",))[0], name)
            for new in permutations(range(3)):
                east, north = renamed(eastern, new), renamed(northern, new)
                self.assertEqual(ask_glued(east, north, ("name",))[0], name)

    def test_as_many_names_as_kinds(self):
        """So many surfaces there are but for names: 1, 3, 7 and 26 with 1, 2, 3 and 4 squares."""
        for many, kinds in ((1, 1), (2, 3), (3, 7), (4, 26)):
            names = {tuple(ask_glued(east, north, ("name",))[0]) for east, north in all_glued(many)}
            self.assertEqual(len(names), kinds)

    def test_six_squares(self):
        chosen = random.Random(6)
        eastern, northern = [1, 2, 0, 4, 3, 5], [3, 1, 5, 0, 4, 2]
        name = ask_glued(eastern, northern, ("name",))[0]
        for again in range(50):
            new = chosen.sample(range(6), 6)
            self.assertEqual(ask_glued(renamed(eastern, new), renamed(northern, new), ("name",))[0], name)


def renamed(step, new):
    """The square s is called new[s]."""
    told = [0] * len(step)
    for square, there in enumerate(step):
        told[new[square]] = new[there]
    return told


if __name__ == "__main__":
    unittest.main()
