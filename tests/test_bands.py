import unittest

from gluedsquaresdesk.bands import laid, sheared, sheared_back, turned
from gluedsquaresdesk.surface import Surface
from tests.calling import HIGH_AS_ALL, L_SHAPED, SMOOTH_ABOVE_ROUGH
from tests.calling import all_glued, ask, ask_glued, directions, some_glued
from tests.walking import walked_bands


def bands(glued, p, q):
    return ask_glued(glued[0], glued[1], ("bands", p, q))[0]


def all_bands(glued, wanted):
    """The bands in many directions, asked in lists of few enough calls."""
    told = []
    for at in range(0, len(wanted), 38):
        told += ask_glued(glued[0], glued[1], *[("bands", p, q) for p, q in wanted[at:at + 38]])
    return told


class ToTheEast(unittest.TestCase):
    def test_one_square(self):
        for p, q in directions(4):
            self.assertEqual(bands(([0], [0]), p, q), [1, 1, 1])

    def test_a_row_above_itself(self):
        for many in range(1, 7):
            self.assertEqual(ask(("begin", many), ("bands", 1, 0)), [[0], [1, many, 1]])
        self.assertEqual(bands(([1, 2, 0], [1, 2, 0]), 1, 0), [1, 3, 1])

    def test_a_row_above_itself_that_is_not_smooth(self):
        self.assertEqual(bands(([1, 2, 0], [1, 0, 2]), 1, 0), [1, 3, 1])

    def test_all_corners_plain(self):
        self.assertEqual(bands(([1, 2, 0, 4, 5, 3], [4, 5, 3, 0, 1, 2]), 1, 0), [1, 3, 2])
        self.assertEqual(bands(([0, 1, 2, 3, 4, 5], [1, 2, 3, 4, 5, 0]), 1, 0), [1, 1, 6])

    def test_a_band_as_high_as_all(self):
        self.assertEqual(bands(HIGH_AS_ALL, 1, 0), [1, 3, 2])
        self.assertEqual(bands(([0, 1, 2, 3], [2, 3, 1, 0]), 1, 0), [1, 1, 4])

    def test_two_rows_of_unlike_lengths(self):
        self.assertEqual(bands(L_SHAPED, 1, 0), [2, 1, 1, 2, 1])
        self.assertEqual(bands(([0, 2, 1], [1, 0, 2]), 1, 0), [2, 1, 1, 2, 1])

    def test_a_smooth_row_above_one_that_is_not(self):
        self.assertEqual(bands(SMOOTH_ABOVE_ROUGH, 1, 0), [2, 1, 2, 2, 1])

    def test_of_like_lengths_the_lower_first(self):
        self.assertEqual(bands(([1, 0, 2, 3, 4], [2, 4, 3, 0, 1]), 1, 0), [3, 1, 1, 1, 2, 2, 1])
        self.assertEqual(bands(([1, 0, 2, 3, 4], [4, 2, 3, 1, 0]), 1, 0), [3, 1, 1, 1, 2, 2, 1])

    def test_of_like_lengths_and_heights_each(self):
        self.assertEqual(bands(([1, 0, 3, 2], [0, 2, 1, 3]), 1, 0), [2, 2, 1, 2, 1])

    def test_two_lengths_and_more_rows(self):
        self.assertEqual(bands(([1, 2, 0, 3, 4, 5], [3, 1, 2, 4, 5, 0]), 1, 0), [2, 1, 3, 3, 1])


class InADirection(unittest.TestCase):
    def test_three_squares(self):
        wanted = [(1, 0), (0, 1), (1, 1), (-1, 1), (2, 1), (1, 2), (3, 1)]
        two, one = [2, 1, 1, 2, 1], [1, 3, 1]
        self.assertEqual(all_bands(L_SHAPED, wanted), [two, two, one, one, two, two, one])

    def test_to_the_north(self):
        self.assertEqual(ask(("begin", 4), ("bands", 0, 1), ("bands", 0, -1)), [[0], [1, 1, 4], [1, 1, 4]])
        self.assertEqual(bands(HIGH_AS_ALL, 0, 1), [2, 2, 1, 4, 1])

    def test_mirrored_directions_differ(self):
        self.assertEqual(bands(([1, 2, 0], [1, 2, 0]), 1, 1), [1, 3, 1])
        self.assertEqual(bands(([1, 2, 0], [1, 2, 0]), -1, 1), [1, 1, 3])
        self.assertEqual(bands(([0, 2, 3, 1], [1, 2, 0, 3]), 1, 1), [2, 2, 1, 2, 1])
        self.assertEqual(bands(([0, 2, 3, 1], [1, 2, 0, 3]), -1, 1), [2, 1, 1, 3, 1])

    def test_the_other_way_as_this_way(self):
        wanted = directions(20)
        for glued in (L_SHAPED, SMOOTH_ABOVE_ROUGH, HIGH_AS_ALL):
            self.assertEqual(all_bands(glued, wanted), all_bands(glued, [(-p, -q) for p, q in wanted]))

    def test_one_row_in_each_direction(self):
        """All plain: a band's length in p, q is the least m for which 6 parts m times p."""
        for p, q in directions(6):
            length = min(m for m in range(1, 7) if m * p % 6 == 0)
            self.assertEqual(ask(("begin", 6), ("bands", p, q))[1], [1, length, 6 // length])

    def test_walked_on_all_small_ones(self):
        for many in (1, 2, 3):
            for glued in all_glued(many):
                wanted = directions(2)
                self.assertEqual(all_bands(glued, wanted), [walked_bands(*glued, p, q) for p, q in wanted], glued)

    def test_walked_on_all_of_four_squares(self):
        for glued in all_glued(4):
            wanted = [(1, 0), (-1, 2)]
            self.assertEqual(all_bands(glued, wanted), [walked_bands(*glued, p, q) for p, q in wanted], glued)

    def test_walked_far(self):
        wanted = [(20, 19), (-19, 20), (19, -20), (-20, -19), (20, 1), (1, 20), (-20, 1), (-1, -20), (13, 8), (-7, 3)]
        chosen = [L_SHAPED, SMOOTH_ABOVE_ROUGH, HIGH_AS_ALL] + some_glued(5, 8, 5) + some_glued(6, 8, 6)
        for glued in chosen:
            self.assertEqual(all_bands(glued, wanted), [walked_bands(*glued, p, q) for p, q in wanted], glued)

    def test_surface_stays_as_it_was(self):
        told = ask_glued(*HIGH_AS_ALL, ("bands", 3, 5), ("state",), ("bands", 3, 5), ("name",), ("bands", 1, 0))
        self.assertEqual(told[1], [6] + HIGH_AS_ALL[0] + HIGH_AS_ALL[1])
        self.assertEqual(told[2], told[0])
        self.assertEqual(told[4], [1, 3, 2])


class Refused(unittest.TestCase):
    def test_too_great(self):
        great = (-2147483648, -2147483647, -21, 21, 2147483647)
        for number in great:
            for other in (-1, 0, 1, 20):
                told = ask_glued(*L_SHAPED, ("bands", number, other), ("bands", other, number), ("state",))
                self.assertEqual(told, [[-22], [-22], [3, 1, 0, 2, 2, 1, 0]])
            self.assertEqual(bands(L_SHAPED, number, number), [-22])

    def test_no_direction(self):
        none = [(0, 0), (2, 0), (0, 2), (-2, 0), (0, -2), (2, 4), (-2, 4), (2, -4), (-2, -4), (20, 0), (0, -20),
                (20, 20), (-20, 20), (3, -3), (20, 18), (15, -6), (-9, 15), (19, 19)]
        for p, q in none:
            told = ask_glued(*L_SHAPED, ("bands", p, q), ("state",))
            self.assertEqual(told, [[-22], [3, 1, 0, 2, 2, 1, 0]], (p, q))

    def test_just_these_are_answered(self):
        span = range(-22, 23)
        wanted = [(p, q) for p in span for q in span]
        right = set(directions(20))
        for (p, q), told in zip(wanted, all_bands(L_SHAPED, wanted), strict=True):
            self.assertEqual(told != [-22], (p, q) in right, (p, q))

    def test_greatest_are_answered(self):
        wanted = [(20, 19), (-19, 20), (20, -19), (-20, -19), (20, 1), (-1, 20)]
        for told in all_bands(L_SHAPED, wanted):
            self.assertIn(told, ([2, 1, 1, 2, 1], [1, 3, 1]))


class WhatHolds(unittest.TestCase):
    def test_lengths_times_heights_are_all_squares(self):
        for glued in [L_SHAPED, SMOOTH_ABOVE_ROUGH, HIGH_AS_ALL] + some_glued(6, 3, 1):
            for told in all_bands(glued, directions(20)):
                self.assertEqual(told[0], (len(told) - 1) // 2)
                pairs = list(zip(told[1::2], told[2::2], strict=True))
                self.assertEqual(pairs, sorted(pairs))
                self.assertEqual(sum(length * height for length, height in pairs), len(glued[0]))

    def test_sheared_and_turned_go_the_directions_too(self):
        for eastern, northern in some_glued(5, 6, 2):
            old = Surface(eastern, northern)
            for p, q in directions(3):
                wanted = bands((eastern, northern), p, q)
                for new, by in ((sheared(old), (p + q, q)), (sheared_back(old), (p - q, q)), (turned(old), (-q, p))):
                    self.assertEqual(bands((new.eastern, new.northern), *by), wanted)

    def test_sheared_and_back_and_turned_four_times(self):
        for eastern, northern in some_glued(6, 20, 3):
            old = Surface(eastern, northern)
            for new in (sheared_back(sheared(old)), sheared(sheared_back(old)), turned(turned(turned(turned(old))))):
                self.assertEqual((new.eastern, new.northern), (eastern, northern))

    def test_sheared_and_turned_as_told(self):
        old = Surface([1, 2, 0], [1, 0, 2])
        self.assertEqual((sheared(old).eastern, sheared(old).northern), ([1, 2, 0], [2, 1, 0]))
        self.assertEqual((sheared_back(old).eastern, sheared_back(old).northern), ([1, 2, 0], [0, 2, 1]))
        self.assertEqual((turned(old).eastern, turned(old).northern), ([1, 0, 2], [1, 2, 0]))

    def test_laid_as_told(self):
        """The steps of the words, one by one."""
        for eastern, northern in some_glued(6, 10, 4):
            old = Surface(eastern, northern)
            # 7, -3 becomes -2, -3, then 3, -2, then -1, -2, then 2, -1, then 0, -1, then 1, 0.
            lying = turned(sheared(sheared(sheared(old))))
            lying = turned(sheared(sheared(lying)))
            lying = turned(sheared(sheared(lying)))
            told = laid(old, 7, -3)
            self.assertEqual((told.eastern, told.northern), (lying.eastern, lying.northern))
            # 5, 2 becomes 1, 2, then -2, 1, then 0, 1, then -1, 0, then 1, 0.
            lying = turned(sheared_back(sheared_back(old)))
            lying = turned(sheared(sheared(lying)))
            lying = turned(turned(lying))
            told = laid(old, 5, 2)
            self.assertEqual((told.eastern, told.northern), (lying.eastern, lying.northern))


if __name__ == "__main__":
    unittest.main()
