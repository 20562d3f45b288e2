"""Promise 3, and long lists of calls of all kinds."""

import random
import unittest

from gluedsquaresdesk.straightways import answers
from tests.calling import HIGH_AS_ALL, L_SHAPED, NUMBERS, SMOOTH_ABOVE_ROUGH
from tests.calling import all_glued, ask, ask_glued, cut, directions, some_glued, written
from tests.model import modelled

MANY = [([0], [0]), L_SHAPED, SMOOTH_ABOVE_ROUGH, HIGH_AS_ALL, ([0, 2, 3, 1], [1, 0, 3, 2])]
MANY += some_glued(4, 10, 20) + some_glued(5, 20, 21) + some_glued(6, 30, 22)
CHANGES = [("shear",), ("unshear",), ("turn",), ("lay", 3, 2), ("lay", -20, 19), ("lay", -1, 0), ("lay", 0, -1)]
FAR = [(20, 19), (-19, 20), (-20, -19), (20, 1), (-1, 20), (13, -8)]
REFUSED = [
    ("begin", 0), ("begin", 7), ("glue", [], []), ("glue", [0] * 255, [1]), ("bands", 21, 1), ("bands", 0, 0),
    ("longest", 2, 4), ("longest", -2147483648, 1), ("counts", 0), ("counts", 5), ("counts", 4294967295),
    ("lay", 0, 2), ("lay", 2, 0), ("lay", 1, -21), ("lay", 2147483647, 2147483647), ("lay", 0, 0),
]
ASKED = [("state",), ("name",), ("corners",), ("bands", 1, 0), ("tops",)]


def bands_between(glued, ahead, behind, change):
    """Bands in directions ahead of a change, and in others behind it."""
    told = ask_glued(*glued, *[("bands", p, q) for p, q in ahead], change, *[("bands", p, q) for p, q in behind])
    return told[:len(ahead)], told[len(ahead) + 1:]


class WhatHolds(unittest.TestCase):
    def test_lengths_times_heights_are_all_squares(self):
        for glued in MANY:
            for change in CHANGES:
                for told in ask_glued(*glued, change, *[("bands", p, q) for p, q in directions(3) + FAR])[1:]:
                    self.assertEqual(len(told), 1 + 2 * told[0])
                    together = sum(length * height for length, height in zip(told[1::2], told[2::2], strict=True))
                    self.assertEqual(together, len(glued[0]), (glued, change))

    def test_sheared_the_bands_to_the_east_stay(self):
        small = [glued for many in (1, 2, 3, 4) for glued in all_glued(many)]
        for glued in small + MANY:
            told = ask_glued(*glued, ("bands", 1, 0), ("shear",), ("bands", 1, 0), ("unshear",), ("unshear",),
                             ("bands", 1, 0))
            self.assertEqual((told[2], told[5]), (told[0], told[0]), glued)

    def test_directions_are_sheared_and_turned_too(self):
        ahead = directions(2)
        moved = {
            ("shear",): [(p + q, q) for p, q in ahead],
            ("unshear",): [(p - q, q) for p, q in ahead],
            ("turn",): [(-q, p) for p, q in ahead],
        }
        for glued in MANY:
            for change, behind in moved.items():
                before, after = bands_between(glued, ahead, behind, change)
                self.assertEqual(after, before, (glued, change))

    def test_far_directions_too(self):
        ahead = [(-19, 20), (20, -19), (-20, 1), (19, -1), (20, -11), (-7, 20)]
        moved = {("shear",): [(p + q, q) for p, q in ahead], ("turn",): [(-q, p) for p, q in ahead]}
        for glued in MANY:
            for change, behind in moved.items():
                before, after = bands_between(glued, ahead, behind, change)
                self.assertEqual(after, before, (glued, change))

    def test_the_tops_stay_as_many(self):
        """A row keeps its squares when it is sheared; so many rows are smooth as were."""
        for glued in MANY:
            told = ask_glued(*glued, ("rows",), ("tops",), ("shear",), ("rows",), ("tops",))
            self.assertEqual((told[0], sum(told[1])), (told[3], sum(told[4])), glued)

    def test_sheared_and_back_it_is_as_it_was(self):
        for glued in MANY:
            old = [len(glued[0])] + glued[0] + glued[1]
            for names in ("shear unshear", "unshear shear", "turn turn turn turn", "shear shear unshear unshear",
                          "shear turn turn turn turn unshear"):
                told = ask_glued(*glued, *[(name,) for name in names.split()], ("state",))
                self.assertEqual(told[-1], old, (glued, names))

    def test_corners_are_as_often_round(self):
        for glued in MANY:
            for change in CHANGES:
                told = ask_glued(*glued, ("corners",), ("holes",), change, ("corners",), ("holes",))
                self.assertEqual((sorted(told[3][1:]), told[4]), (sorted(told[0][1:]), told[1]), (glued, change))

    def test_what_is_refused_changes_nothing(self):
        for glued in MANY:
            for refused in REFUSED:
                told = ask_glued(*glued, ("shear",), *ASKED, refused, *ASKED)
                self.assertEqual(len(told[6]), 1)
                self.assertIn(told[6][0], (-22, -33))
                self.assertEqual(told[1:6], told[7:], (glued, refused))

    def test_what_is_told_changes_nothing(self):
        for glued in MANY:
            for asked in (("one",), ("counts", 4), ("longest", -20, 19), ("bands", 3, -7), ("tops",), ("name",)):
                told = ask_glued(*glued, ("turn",), *ASKED, asked, *ASKED)
                self.assertEqual(told[1:6], told[7:], (glued, asked))


class AheadOfBegin(unittest.TestCase):
    def test_behind_a_refused_begin(self):
        calls = [("longest", 1, 0), ("one",), ("counts", 1), ("tops",), ("shear",), ("unshear",), ("turn",),
                 ("lay", 1, 0), ("longest", 0, 0), ("counts", 0), ("lay", 21, 2)]
        for call in calls:
            told = ask(call, ("begin", 7), call, ("begin", 0), call, ("begin", 2), ("state",))
            self.assertEqual(told, [[-11], [-22], [-11], [-22], [-11], [0], [2, 1, 0, 0, 1]], call)


class OneBehindAnother(unittest.TestCase):
    def test_asked_between_changes(self):
        changes = [("turn",), ("shear",), ("lay", -3, 2), ("unshear",), ("lay", 0, 1), ("turn",)]
        for glued in [L_SHAPED, SMOOTH_ABOVE_ROUGH, HIGH_AS_ALL] + some_glued(6, 10, 23):
            calls = [("begin", len(glued[0])), ("glue", *glued)]
            for change in changes:
                calls += [change] + ASKED
            self.assertLessEqual(len(calls), 40)
            self.assertEqual(ask(*calls), modelled(*calls), glued)

    def test_written_out(self):
        told = ask_glued(*SMOOTH_ABOVE_ROUGH, ("turn",), *ASKED, ("shear",), *ASKED)
        self.assertEqual(told, [
            [0], [4, 3, 1, 0, 2, 1, 0, 2, 3], [8, 0, 2, 3, 1, 1, 0, 2, 3], [2, 3, 1], [2, 1, 1, 3, 1], [2, 0, 0],
            [0], [4, 3, 1, 0, 2, 2, 0, 3, 1], [8, 0, 2, 3, 1, 1, 3, 0, 2], [2, 3, 1], [2, 1, 1, 3, 1], [2, 0, 0],
        ])

    def test_lists_of_forty_calls(self):
        chosen = random.Random(24)
        for again in range(60):
            calls = [some_call(chosen) for place in range(40)]
            given = written(*calls)
            kept = list(given)
            told = answers(given)
            self.assertEqual(cut(told), modelled(*calls), calls)
            self.assertEqual(given, kept)
            self.assertEqual(answers(given), told)


def some_direction(chosen):
    if chosen.random() < 0.1:
        return chosen.choice([-2147483648, -21, 21, 2147483647]), chosen.randint(-3, 3)
    return chosen.randint(-5, 5), chosen.randint(-5, 5)


def some_call(chosen):
    # Begin and what takes the model long come seldom.
    name = chosen.choice(sorted(NUMBERS))
    if name in ("begin", "one", "counts") and chosen.random() < 0.6:
        name = chosen.choice(["shear", "unshear", "turn", "lay", "state"])
    if name == "begin":
        return name, chosen.choice([0, 1, 4, 5, 5, 6, 6, 6, 7, 4294967295])
    if name == "glue":
        many = chosen.choice([4, 5, 5, 6, 6, 6])
        return name, chosen.sample(range(many), many), chosen.sample(range(many), many)
    if name == "counts":
        return name, chosen.choice([0, 1, 2, 3, 4, 5])
    if name in ("bands", "longest", "lay"):
        return name, *some_direction(chosen)
    return (name,)


if __name__ == "__main__":
    unittest.main()
