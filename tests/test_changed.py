"""shear, unshear, turn, lay."""

import unittest

from tests import words
from tests.calling import L_SHAPED, all_glued, ask, ask_glued, directions, some_glued

EAST, NORTH, WEST, SOUTH = [1, 2, 0, 3], [1, 2, 3, 0], [2, 0, 1, 3], [3, 0, 1, 2]
FAR = [(20, 19), (-19, 20), (-20, -19), (19, -20), (20, 1), (-1, 20), (1, -20), (-20, -1), (20, -3), (-13, -20)]


def state_behind(glued, *calls):
    told = ask_glued(*glued, *calls, ("state",))
    if any(answer != [0] for answer in told[:-1]):
        raise AssertionError("a change was not answered by 0")
    return told[-1]


def written_out(eastern, northern):
    return [len(eastern)] + list(eastern) + list(northern)


class ShearedAndTurned(unittest.TestCase):
    def test_as_told(self):
        self.assertEqual(state_behind((EAST, NORTH), ("shear",)), [4] + EAST + [3, 1, 2, 0])
        self.assertEqual(state_behind((EAST, NORTH), ("unshear",)), [4] + EAST + [2, 3, 1, 0])
        self.assertEqual(state_behind((EAST, NORTH), ("turn",)), [4] + SOUTH + EAST)
        self.assertEqual(state_behind((EAST, NORTH), ("turn",), ("turn",)), [4] + WEST + SOUTH)
        self.assertEqual(state_behind((EAST, NORTH), ("turn",), ("turn",), ("turn",)), [4] + NORTH + WEST)

    def test_one_row(self):
        told = ask(("begin", 3), ("shear",), ("state",), ("turn",), ("state",), ("rows",), ("unshear",), ("state",))
        self.assertEqual(told, [
            [0], [0], [3, 1, 2, 0, 2, 0, 1], [0], [3, 1, 2, 0, 1, 2, 0], [1, 3], [0], [3, 1, 2, 0, 2, 0, 1],
        ])
        told = ask(("begin", 3), ("turn",), ("state",), ("shear",), ("state",), ("unshear",), ("state",))
        self.assertEqual(told, [[0]] + [[0], [3, 0, 1, 2, 1, 2, 0]] * 3)

    def test_one_square(self):
        calls = (("shear",), ("unshear",), ("turn",), ("lay", 7, -3), ("lay", -1, 0))
        for call in calls:
            self.assertEqual(ask(("begin", 1), call, ("state",)), [[0], [0], [1, 0, 0]])

    def test_all_small_ones(self):
        by_words = {"shear": words.sheared, "unshear": words.sheared_back, "turn": words.turned}
        for many in (1, 2, 3, 4):
            for glued in all_glued(many):
                for name, change in by_words.items():
                    wanted = words.changed(*glued, change(words.UNCHANGED))
                    self.assertEqual(state_behind(glued, (name,)), written_out(*wanted), (glued, name))

    def test_a_begin_behind_them(self):
        told = ask(("begin", 3), ("turn",), ("shear",), ("begin", 2), ("state",))
        self.assertEqual(told, [[0], [0], [0], [0], [2, 1, 0, 0, 1]])

    def test_a_glue_behind_them(self):
        told = ask_glued(EAST, NORTH, ("turn",), ("shear",), ("glue", NORTH, EAST), ("state",))
        self.assertEqual(told, [[0], [0], [2], [4] + NORTH + EAST])


class Laid(unittest.TestCase):
    def test_the_four_sides(self):
        self.assertEqual(state_behind((EAST, NORTH), ("lay", 1, 0)), [4] + EAST + NORTH)
        self.assertEqual(state_behind((EAST, NORTH), ("lay", -1, 0)), [4] + WEST + SOUTH)
        self.assertEqual(state_behind((EAST, NORTH), ("lay", 0, 1)), [4] + NORTH + WEST)
        self.assertEqual(state_behind((EAST, NORTH), ("lay", 0, -1)), [4] + SOUTH + EAST)

    def test_below_nought(self):
        self.assertEqual(state_behind((EAST, NORTH), ("lay", -2, 1)), [4, 2, 3, 1, 0] + WEST)
        self.assertEqual(state_behind((EAST, NORTH), ("lay", -1, -1)), [4, 3, 2, 0, 1] + EAST)

    def test_by_its_steps(self):
        """5, 2 becomes 1, 2, then -2, 1, then 0, 1, then -1, 0, then 1, 0; -7, 3 becomes 2, 3, then -3, 2, then 1, 2,
        then -2, 1, then 0, 1, then -1, 0, then 1, 0."""
        steps = {
            (5, 2): "unshear unshear turn shear shear turn turn turn",
            (-7, 3): "shear shear shear turn shear shear turn shear shear turn turn turn",
            (7, -3): "shear shear shear turn shear shear turn shear shear turn",
        }
        for glued in [(EAST, NORTH)] + some_glued(6, 10, 4):
            for (p, q), names in steps.items():
                one_by_one = state_behind(glued, *[(name,) for name in names.split()])
                self.assertEqual(state_behind(glued, ("lay", p, q)), one_by_one, (glued, p, q))

    def test_by_words(self):
        for glued in some_glued(5, 4, 8) + some_glued(6, 4, 9):
            for p, q in directions(6) + FAR:
                wanted = words.changed(*glued, words.laid(p, q))
                self.assertEqual(state_behind(glued, ("lay", p, q)), written_out(*wanted), (glued, p, q))

    def test_the_words_go_in_the_direction(self):
        """What the tests hold lay against goes, in one step to the east, p to the east and q to the north."""
        for p, q in directions(20):
            self.assertEqual(words.far(words.laid(p, q)[0]), (p, q))

    def test_then_the_bands_go_to_the_east(self):
        for glued in some_glued(6, 4, 10):
            for p, q in directions(5) + FAR:
                told = ask_glued(*glued, ("bands", p, q), ("lay", p, q), ("bands", 1, 0))
                self.assertEqual(told, [told[0], [0], told[0]], (glued, p, q))

    def test_again_and_again(self):
        wanted = (EAST, NORTH)
        calls = []
        for p, q in FAR:
            wanted = words.changed(*wanted, words.laid(p, q))
            calls.append(("lay", p, q))
            self.assertEqual(state_behind((EAST, NORTH), *calls), written_out(*wanted))


class Refused(unittest.TestCase):
    def refused(self, p, q):
        told = ask_glued(*L_SHAPED, ("shear",), ("state",), ("lay", p, q), ("state",), ("name",))
        self.assertEqual(told[2], [-22], (p, q))
        self.assertEqual(told[3], told[1])
        self.assertEqual(told[3], [3, 1, 0, 2, 1, 2, 0])

    def test_too_great(self):
        for number in (-2147483648, -21, 21, 2147483647):
            for other in (-1, 0, 1, 20, number):
                self.refused(number, other)
                self.refused(other, number)

    def test_no_direction(self):
        for p, q in ((0, 0), (2, 0), (0, 2), (2, 4), (-2, 0), (0, -2), (-2, -4), (20, -20), (-15, 6), (20, 0)):
            self.refused(p, q)

    def test_just_these_are_answered(self):
        right = set(directions(20))
        for p in range(-22, 23):
            for q in range(-22, 23):
                told = ask(("begin", 2), ("lay", p, q))[1]
                self.assertEqual(told, [0] if (p, q) in right else [-22], (p, q))


if __name__ == "__main__":
    unittest.main()
