import unittest

from gluedsquaresdesk.straightways import answers

CALLS = [7, 0, 3, 1, 3, 1, 0, 2, 3, 2, 1, 0, 2, 3, 4, 5, 6, 7, 8, 1, 1, 8, 2, 4, 1, 0, 0, 0, 7, 7]
TOLD = [
    1, -11, 1, 0, 1, 1, 2, 1, 3, 1, 2, 3, 2, 2, 1, 3, 2, 2, 1, 7, 6, 0, 2, 1, 1, 0, 2, 7, 3, 1, 0, 2, 2, 1, 0,
    3, 1, 3, 1, 1, -22, 1, -22, 1, -22, 7, 3, 1, 0, 2, 2, 1, 0,
]
CHANGED = [
    0, 3, 1, 3, 1, 0, 2, 3, 2, 1, 0, 9, 1, 1, 9, 0, 0, 10, 11, 1, 11, 5, 12, 13, 7, 14, 7, 15, 7, 16, 0, 1, 7, 16, 2, 0,
    8, 1, 0, 12, 10,
]
CHANGED_TOLD = [
    1, 0, 1, 1, 1, 3, 1, -22, 3, 0, -5, 1, 7, 4, 2, 2, 0, 0, 0, 0, 1, -22, 3, 2, 0, 0, 1, 0, 7, 3, 1, 0, 2, 1, 2, 0,
    1, 0, 7, 3, 1, 0, 2, 2, 1, 0, 1, 0, 7, 3, 2, 1, 0, 1, 0, 2, 1, 0, 7, 3, 1, 0, 2, 2, 1, 0, 1, -22,
    5, 2, 1, 1, 2, 1, 3, 2, 0, 0, 3, 0, -5, 1,
]
BOTH = ((CALLS, TOLD), (CHANGED, CHANGED_TOLD))


class Sealed(list):
    """A list that can be read alone."""

    def refuse(self, *given):
        raise AssertionError("what is handed in was changed")

    append = clear = extend = insert = pop = remove = reverse = sort = refuse
    __setitem__ = __delitem__ = __iadd__ = __imul__ = refuse


class Interface(unittest.TestCase):
    def test_nothing_asked(self):
        self.assertEqual(answers([]), [])

    def test_answers_stand_number_by_number(self):
        for calls, told in BOTH:
            self.assertEqual(answers(calls), told)

    def test_lists_of_plain_whole_numbers(self):
        for calls, wanted in BOTH:
            told = answers(calls)
            self.assertIs(type(told), list)
            self.assertEqual({type(number) for number in told}, {int})

    def test_handed_in_stays_as_it_was(self):
        for calls, told in BOTH:
            given = list(calls)
            answers(given)
            self.assertEqual(given, calls)

    def test_handed_in_is_not_changed_for_a_while(self):
        for calls, told in BOTH:
            self.assertEqual(answers(Sealed(calls)), told)

    def test_nothing_is_kept(self):
        first = answers(CALLS)
        self.assertEqual(answers([7]), [1, -11])
        first.clear()
        self.assertEqual(answers(CALLS), TOLD)
        self.assertEqual(answers([0, 3, 7]), [1, 0, 7, 3, 1, 2, 0, 0, 1, 2])

    def test_a_second_time(self):
        for calls, told in BOTH + BOTH:
            self.assertEqual(answers(calls), told)
            self.assertEqual(answers([12, 0, 1, 15, 7]), [1, -11, 1, 0, 1, 0, 3, 1, 0, 0])

    def test_empty_lists_of_glue_are_read_past(self):
        self.assertEqual(answers([0, 1, 1, 0, 0, 3]), [1, 0, 1, -22, 1, 1])
        self.assertEqual(answers([0, 1, 1, 0, 1, 0, 3]), [1, 0, 1, -22, 1, 1])
        self.assertEqual(answers([1, 2, 0, 5, 0, 0, 1]), [1, -11, 1, 0])

    def test_as_long_as_may_be(self):
        """A begin and 39 glues with two lists of 255 great numbers each."""
        glue = [1, 255] + [4294967295] * 255 + [255] + [0] * 255
        self.assertEqual(answers([0, 6] + glue * 39), [1, 0] + [1, -22] * 39)

    def test_forty_calls(self):
        self.assertEqual(answers([0, 6] + [8, -19, 20] * 39), [1, 0] + [3, 1, 6, 1] * 39)

    def test_forty_changes(self):
        """One row of five is sheared thirteen times, and thirteen times told: 13 less 10 are 3."""
        told = answers([0, 5] + [13, 12, 7] * 13)
        self.assertEqual(told[:2], [1, 0])
        self.assertEqual(told[-11:], [5, 1, 2, 3, 4, 0, 2, 3, 4, 0, 1])
        self.assertEqual(len(told), 2 + 13 * (2 + 3 + 12))

    def test_forty_searches(self):
        self.assertEqual(answers([0, 6] + [10, 11, 4, 9, -19, 20] * 13),
                         [1, 0] + [3, 0, 1, 0, 7, 24, 24, 0, 0, 0, 0, 0, 1, 6] * 13)

    def test_calls_ahead_of_begin_are_read_past(self):
        ahead = [8, 1, 0, 9, 1, 0, 10, 11, 4, 12, 13, 14, 15, 16, -1, 0, 1, 1, 0, 1, 0]
        self.assertEqual(answers(ahead + [0, 1]), [1, -11] * 10 + [1, 0])


if __name__ == "__main__":
    unittest.main()
