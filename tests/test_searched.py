"""longest, one, counts, tops."""

import unittest
from math import gcd

from tests import words
from tests.calling import HIGH_AS_ALL, L_SHAPED, SMOOTH_ABOVE_ROUGH
from tests.calling import all_glued, ask, ask_glued, directions, some_glued
from tests.walking import walked_bands

NEVER_ONE = ([0, 2, 3, 1], [1, 0, 3, 2])
FAR = [(20, 19), (-19, 20), (-20, -19), (20, 1), (-1, 20)]


def in_order(greatest):
    """1, 0 first, then those with q from 1 on, of like ones with the lesser p."""
    upper = [(q, p) for p, q in directions(greatest) if q > 0]
    return [(1, 0)] + [(p, q) for q, p in sorted(upper)]


def walked_counts(glued, greatest):
    many = [walked_bands(*glued, p, q)[0] for p, q in in_order(greatest)]
    return [len(many)] + [many.count(bands) for bands in range(1, 7)]


def walked_one(glued):
    for p, q in in_order(5):
        if walked_bands(*glued, p, q)[0] == 1:
            return [0, p, q]
    return [-33]


class Longest(unittest.TestCase):
    def longest(self, glued, p, q, wanted):
        self.assertEqual(ask_glued(*glued, ("longest", p, q)), [[wanted]], (glued, p, q))

    def test_to_the_east(self):
        self.longest(([0], [0]), 1, 0, 1)
        self.longest(L_SHAPED, 1, 0, 2)
        self.longest(SMOOTH_ABOVE_ROUGH, 1, 0, 2)
        self.longest(HIGH_AS_ALL, 1, 0, 3)
        self.longest(([1, 2, 0, 3, 4, 5], [3, 1, 2, 4, 5, 0]), 1, 0, 3)
        self.assertEqual(ask(("begin", 6), ("longest", 1, 0)), [[0], [6]])

    def test_in_a_direction(self):
        self.longest(L_SHAPED, 1, 1, 3)
        self.longest(L_SHAPED, -1, 1, 3)
        self.longest(L_SHAPED, -2, -1, 2)
        self.longest(HIGH_AS_ALL, 0, 1, 4)
        self.longest(HIGH_AS_ALL, 0, -1, 4)
        self.longest(([1, 2, 0], [1, 2, 0]), 1, 1, 3)
        self.longest(([1, 2, 0], [1, 2, 0]), -1, 1, 1)
        self.assertEqual(ask(("begin", 6), ("longest", 0, 1)), [[0], [1]])

    def test_walked(self):
        for glued in some_glued(5, 6, 11) + some_glued(6, 6, 12):
            for p, q in directions(2) + FAR:
                self.longest(glued, p, q, max(walked_bands(*glued, p, q)[1::2]))

    def test_refused(self):
        wrong = [(0, 0), (2, 0), (0, 2), (2, 4), (-2, 0), (0, -2), (-2, 4), (20, 20), (20, 0), (-9, -15)]
        for number in (-2147483648, -21, 21, 2147483647):
            wrong += [(number, other) for other in (-1, 0, 1, 20, number)]
            wrong += [(other, number) for other in (-1, 0, 1, 20)]
        for p, q in wrong:
            told = ask_glued(*L_SHAPED, ("longest", p, q), ("state",))
            self.assertEqual(told, [[-22], [3, 1, 0, 2, 2, 1, 0]], (p, q))

    def test_just_these_are_answered(self):
        right = set(directions(20))
        for p in range(-22, 23):
            for q in range(-22, 23):
                told = ask(("begin", 1), ("longest", p, q))[1]
                self.assertEqual(told, [1] if (p, q) in right else [-22], (p, q))


class One(unittest.TestCase):
    def one(self, glued, wanted):
        told = ask_glued(*glued, ("one",), ("state",))
        self.assertEqual(told, [wanted, [len(glued[0])] + glued[0] + glued[1]], glued)

    def test_to_the_east_first(self):
        self.one(([0], [0]), [0, 1, 0])
        self.one(([1, 2, 0], [1, 0, 2]), [0, 1, 0])
        self.one(HIGH_AS_ALL, [0, 1, 0])
        for many in range(1, 7):
            self.assertEqual(ask(("begin", many), ("one",))[1], [0, 1, 0])

    def test_then_from_the_least(self):
        self.one(L_SHAPED, [0, -5, 1])
        self.one(([0, 2, 1], [1, 2, 0]), [0, -4, 1])
        self.one(([0, 2, 3, 4, 1], [1, 0, 3, 4, 2]), [0, -3, 1])
        self.one(([0, 2, 3, 4, 1], [1, 0, 2, 4, 3]), [0, -2, 1])

    def test_a_greater_q(self):
        self.one(([0, 1, 3, 4, 2], [1, 2, 0, 4, 3]), [0, -5, 2])

    def test_in_none(self):
        self.one(NEVER_ONE, [-33])
        self.one(([0, 1, 3, 4, 2], [2, 3, 0, 4, 1]), [-33])
        for p, q in in_order(5):
            self.assertEqual(walked_bands(*NEVER_ONE, p, q)[0], 2)

    def test_walked_on_all_small_ones(self):
        for many in (1, 2, 3):
            for glued in all_glued(many):
                self.one(glued, walked_one(glued))

    def test_walked_on_some(self):
        for glued in some_glued(4, 8, 13) + some_glued(5, 8, 14) + some_glued(6, 8, 15):
            self.one(glued, walked_one(glued))


class Counts(unittest.TestCase):
    def test_how_many_directions(self):
        for greatest, many in ((1, 4), (2, 8), (3, 16), (4, 24)):
            told = ask(("begin", 6), ("counts", greatest))[1]
            self.assertEqual(told, [many, many, 0, 0, 0, 0, 0])
            pairs = [(p, q) for q in range(1, greatest + 1) for p in range(-greatest, greatest + 1) if gcd(p, q) == 1]
            self.assertEqual(len(pairs) + 1, many)

    def test_three_squares(self):
        """Two bands in 1, 0 and 0, 1; one in 1, 1 and -1, 1."""
        told = ask_glued(*L_SHAPED, ("counts", 1), ("counts", 2), ("counts", 4))
        self.assertEqual(told, [[4, 2, 2, 0, 0, 0, 0], [8, 2, 6, 0, 0, 0, 0], [24, 6, 18, 0, 0, 0, 0]])

    def test_more_bands(self):
        self.assertEqual(ask_glued(*NEVER_ONE, ("counts", 4)), [[24, 0, 24, 0, 0, 0, 0]])
        self.assertEqual(ask_glued([0, 2, 3, 4, 1], [1, 0, 2, 4, 3], ("counts", 4)), [[24, 4, 15, 5, 0, 0, 0]])
        four = ([4, 3, 2, 1, 0, 5], [0, 2, 3, 4, 5, 1])
        self.assertEqual(ask_glued(*four, ("bands", 1, 0))[0][0], 4)
        self.assertEqual(ask_glued(*four, ("counts", 1)), [walked_counts(four, 1)])

    def test_mirrored_ones_differ(self):
        """To the right and to the left of the north it is not alike here."""
        glued = ([0, 2, 3, 1], [1, 2, 0, 3])
        told = ask_glued(*glued, *[("counts", greatest) for greatest in (1, 2, 3, 4)])
        self.assertEqual(told, [walked_counts(glued, greatest) for greatest in (1, 2, 3, 4)])

    def test_walked(self):
        for glued in [L_SHAPED, SMOOTH_ABOVE_ROUGH, HIGH_AS_ALL] + some_glued(5, 3, 16) + some_glued(6, 3, 17):
            told = ask_glued(*glued, *[("counts", greatest) for greatest in (1, 2, 3, 4)])
            self.assertEqual(told, [walked_counts(glued, greatest) for greatest in (1, 2, 3, 4)], glued)

    def test_refused(self):
        for greatest in (0, 5, 6, 20, 255, 2147483648, 4294967295):
            told = ask_glued(*L_SHAPED, ("counts", greatest), ("state",))
            self.assertEqual(told, [[-22], [3, 1, 0, 2, 2, 1, 0]])

    def test_nothing_changes(self):
        told = ask_glued(*HIGH_AS_ALL, ("counts", 4), ("state",), ("counts", 4), ("longest", -4, 3), ("state",))
        self.assertEqual(told[1], [6] + HIGH_AS_ALL[0] + HIGH_AS_ALL[1])
        self.assertEqual((told[2], told[4]), (told[0], told[1]))


class Tops(unittest.TestCase):
    def tops(self, glued, *wanted):
        self.assertEqual(ask_glued(*glued, ("tops",)), [[len(wanted)] + list(wanted)], glued)

    def test_a_row_above_itself(self):
        for many in range(1, 7):
            self.assertEqual(ask(("begin", many), ("tops",)), [[0], [1, 1]])
        self.tops(([1, 2, 0], [1, 2, 0]), 1)
        self.tops(([1, 2, 0], [1, 0, 2]), 0)

    def test_all_corners_plain(self):
        self.tops(([1, 2, 0, 4, 5, 3], [4, 5, 3, 0, 1, 2]), 1, 1)
        self.tops(([0, 1, 2, 3, 4, 5], [1, 2, 3, 4, 5, 0]), 1, 1, 1, 1, 1, 1)

    def test_two_rows_of_unlike_lengths(self):
        self.tops(L_SHAPED, 0, 0)

    def test_a_band_as_high_as_all(self):
        self.tops(HIGH_AS_ALL, 1, 0)

    def test_a_smooth_row_above_one_that_is_not(self):
        self.tops(SMOOTH_ABOVE_ROUGH, 0, 1, 0)

    def test_by_the_least_square(self):
        self.tops(([0, 1, 3, 2], [1, 2, 0, 3]), 1, 0, 0)
        self.tops(([3, 1, 2, 0], [2, 0, 1, 3]), 0, 0, 1)

    def test_one_plain_corner_is_not_enough(self):
        """One of this row's four squares has a plain corner, the others haven't."""
        glued = ([1, 2, 3, 0], [1, 0, 2, 3])
        self.assertEqual(sorted(words.plain(*glued, square) for square in range(4)), [False, False, False, True])
        self.tops(glued, 0)

    def test_all_small_ones(self):
        for many in (1, 2, 3, 4):
            for eastern, northern in all_glued(many):
                wanted, seen = [], []
                for square in range(many):
                    if square not in seen:
                        row = {words.gone(eastern, northern, square, [0] * often) for often in range(many)}
                        seen += sorted(row)
                        wanted.append(int(all(words.plain(eastern, northern, each) for each in row)))
                self.tops((eastern, northern), *wanted)


if __name__ == "__main__":
    unittest.main()
