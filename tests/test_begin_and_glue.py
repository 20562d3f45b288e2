import unittest
from itertools import permutations

from tests.calling import NUMBERS, all_glued, ask, ask_glued, hang_together

ALL_BUT_BEGIN = [
    ("glue", [0], [0]), ("corners",), ("holes",), ("rows",), ("columns",), ("name",), ("state",), ("bands", 1, 0),
    ("longest", 1, 0), ("one",), ("counts", 1), ("tops",), ("shear",), ("unshear",), ("turn",), ("lay", 1, 0),
]


class Begin(unittest.TestCase):
    def test_one_row(self):
        self.assertEqual(ask(("begin", 1), ("state",)), [[0], [1, 0, 0]])
        self.assertEqual(ask(("begin", 2), ("state",)), [[0], [2, 1, 0, 0, 1]])
        self.assertEqual(ask(("begin", 6), ("state",)), [[0], [6, 1, 2, 3, 4, 5, 0, 0, 1, 2, 3, 4, 5]])

    def test_refused(self):
        for many in (0, 7, 8, 255, 2147483648, 4294967295):
            self.assertEqual(ask(("begin", many), ("state",)), [[-22], [-11]])

    def test_refused_changes_nothing(self):
        for many in (0, 7, 4294967295):
            told = ask(("begin", 3), ("glue", [1, 0, 2], [2, 1, 0]), ("begin", many), ("state",))
            self.assertEqual(told, [[0], [1], [-22], [3, 1, 0, 2, 2, 1, 0]])

    def test_again(self):
        told = ask(("begin", 3), ("glue", [1, 0, 2], [2, 1, 0]), ("begin", 3), ("state",), ("begin", 2), ("state",))
        self.assertEqual(told, [[0], [1], [0], [3, 1, 2, 0, 0, 1, 2], [0], [2, 1, 0, 0, 1]])


class AheadOfBegin(unittest.TestCase):
    def test_each_call_alone(self):
        self.assertEqual(len(ALL_BUT_BEGIN) + 1, len(NUMBERS))
        for call in ALL_BUT_BEGIN:
            self.assertEqual(ask(call), [[-11]], call)

    def test_all_in_one_list(self):
        told = ask(*ALL_BUT_BEGIN, ("begin", 7), *ALL_BUT_BEGIN, ("begin", 1), ("state",))
        self.assertEqual(told, [[-11]] * 16 + [[-22]] + [[-11]] * 16 + [[0], [1, 0, 0]])

    def test_ahead_of_every_other_refusal(self):
        wrong = [
            ("glue", [], []), ("glue", [7] * 255, [4294967295] * 255), ("bands", 0, 0), ("bands", -2147483648, 21),
            ("longest", 2, 4), ("counts", 0), ("counts", 4294967295), ("lay", 2147483647, 2147483647),
        ]
        self.assertEqual(ask(*wrong, ("begin", 2), ("rows",)), [[-11]] * 8 + [[0], [1, 2]])


class Glue(unittest.TestCase):
    def refused(self, many, eastern, northern, number):
        told = ask(("begin", many), ("state",), ("glue", eastern, northern), ("state",), ("corners",))
        self.assertEqual(told[2], [number], (eastern, northern))
        self.assertEqual(told[3], told[1])
        self.assertEqual(told[4], [many] + [1] * many)

    def test_how_many_corners(self):
        self.assertEqual(ask(("begin", 1), ("glue", [0], [0])), [[0], [1]])
        self.assertEqual(ask(("begin", 3), ("glue", [1, 0, 2], [2, 1, 0])), [[0], [1]])
        self.assertEqual(ask(("begin", 3), ("glue", [1, 2, 0], [1, 2, 0])), [[0], [3]])
        self.assertEqual(ask(("begin", 4), ("glue", [1, 0, 2, 3], [2, 1, 3, 0])), [[0], [2]])

    def test_state_is_what_was_glued(self):
        for eastern, northern in all_glued(3):
            self.assertEqual(ask_glued(eastern, northern, ("state",)), [[3] + eastern + northern])

    def test_again_and_again(self):
        told = ask(
            ("begin", 2), ("glue", [0, 1], [1, 0]), ("state",), ("glue", [1, 0], [1, 0]), ("state",),
            ("glue", [0, 1], [0, 1]), ("state",), ("glue", [1, 0], [0]), ("state",),
        )
        self.assertEqual(told, [
            [0], [2], [2, 0, 1, 1, 0], [2], [2, 1, 0, 1, 0], [-33], [2, 1, 0, 1, 0], [-22], [2, 1, 0, 1, 0],
        ])

    def test_not_all_squares_once(self):
        right = [1, 2, 0]
        wrong = [
            [], [0], [1, 0], [0, 1, 2, 3], [1, 2, 0, 0], [0, 0, 0], [1, 1, 2], [0, 2, 2], [1, 2, 3], [3, 1, 2],
            [0, 1, 4294967295], [4294967295, 4294967294, 4294967293], [0] * 255, [0, 1, 2] * 85,
        ]
        for given in wrong:
            self.refused(3, given, right, -22)
            self.refused(3, right, given, -22)
            self.refused(3, given, given, -22)

    def test_one_square(self):
        self.refused(1, [1], [0], -22)
        self.refused(1, [0], [], -22)
        self.refused(1, [0, 0], [0], -22)

    def test_not_as_many_as_begun(self):
        self.refused(2, [1, 2, 0], [1, 2, 0], -22)
        self.refused(4, [1, 2, 0], [1, 2, 0], -22)

    def test_not_together(self):
        self.refused(2, [0, 1], [0, 1], -33)
        self.refused(3, [1, 0, 2], [1, 0, 2], -33)
        self.refused(4, [1, 0, 3, 2], [0, 1, 3, 2], -33)
        self.refused(6, [1, 2, 0, 4, 5, 3], [2, 0, 1, 3, 4, 5], -33)
        self.refused(6, [0, 2, 3, 4, 5, 1], [0, 1, 2, 3, 4, 5], -33)

    def test_together_by_both_kinds_of_steps(self):
        self.assertEqual(ask_glued([1, 0, 3, 2], [0, 2, 1, 3], ("rows",), ("columns",)), [[2, 2, 2], [3, 1, 2, 1]])

    def test_not_right_goes_before_not_together(self):
        self.refused(3, [0, 1, 2], [0, 1], -22)
        self.refused(3, [0, 1, 1], [0, 1, 2], -22)
        self.refused(3, [0, 1, 2], [0, 1, 3], -22)

    def test_just_those_that_hang_together(self):
        """Of all pairs of lists so many hang together: 1, 3, 26 and 426."""
        for many, together in ((1, 1), (2, 3), (3, 26), (4, 426)):
            taken = 0
            for eastern in permutations(range(many)):
                for northern in permutations(range(many)):
                    told = ask(("begin", many), ("glue", list(eastern), list(northern)))[1][0]
                    self.assertEqual(told == -33, not hang_together(eastern, northern))
                    taken += told > 0
            self.assertEqual(taken, together)


if __name__ == "__main__":
    unittest.main()
