"""The interface: how calls are handed in, how the answers stand, and that nothing is changed or kept."""

import unittest

from calling import HIGHEST
from rolesdoubled.play import UnknownCall, answers


class Watched(list):
    """A list that counts whatever would change it."""

    changes = 0

    def count_change(self, *given, **named):
        Watched.changes += 1

    append = extend = insert = pop = remove = clear = sort = reverse = count_change
    __setitem__ = __delitem__ = __iadd__ = __imul__ = count_change


CALLS = [
    0, 3, 10, 0, 4,
    1, 20, 2, 0, 1,
    1, 3, 0,
    1, 1000, 1, 2,
    2, 100, 3, 0, 1, 100001,
    3,
    1, 1001, 0,
    2, 1, 2, 1, 1,
    0, 0,
    3,
]
TOLD = [
    1, 3,
    1, 0,
    1, 1,
    1, 2,
    1, 0,
    16, 3, 4, 0, 1, 0, 0, 4, 0, 2, 0, 2, 4, 1, 2, 0, 2,
    1, -1,
    1, -1,
    1, -1,
    16, 3, 4, 0, 1, 0, 0, 4, 0, 2, 0, 2, 4, 1, 2, 0, 2,
]


class Form(unittest.TestCase):
    def test_each_answer_behind_how_many_numbers_it_has(self):
        self.assertEqual(answers(CALLS), TOLD)

    def test_single_calls(self):
        self.assertEqual(answers([0, 2, 5, 5]), [1, 2])
        self.assertEqual(answers([0, 0]), [1, -1])
        self.assertEqual(answers([1, 7, 0]), [1, 0])
        self.assertEqual(answers([2, 7, 0]), [1, 0])
        self.assertEqual(answers([3]), [1, 0])

    def test_pairs_stand_behind_how_many_they_are(self):
        self.assertEqual(answers([0, 2, 5, 5, 1, 9, 2, 0, 1, 3])[4:], [6, 1, 4, 0, 1, 0, 0])

    def test_plain_numbers_in_a_plain_list(self):
        told = answers(CALLS)
        self.assertIs(type(told), list)
        for number in told:
            self.assertIs(type(number), int)


class NoCall(unittest.TestCase):
    def test_a_number_that_stands_for_no_call(self):
        for number in (8, HIGHEST):
            with self.assertRaises(UnknownCall):
                answers([3, number])


class NothingKept(unittest.TestCase):
    def test_what_is_handed_in_is_the_same_afterwards(self):
        given = list(CALLS)
        told = answers(given)
        self.assertEqual(given, CALLS)
        self.assertIsNot(told, given)

    def test_what_is_handed_in_is_never_changed(self):
        Watched.changes = 0
        self.assertEqual(answers(Watched(CALLS)), TOLD)
        self.assertEqual(Watched.changes, 0)

    def test_a_second_time_is_as_the_first(self):
        self.assertEqual(answers(CALLS), TOLD)
        self.assertEqual(answers(CALLS), TOLD)
        self.assertEqual(answers([3]), [1, 0])
        self.assertEqual(answers([1, 1, 1, 0]), [1, -1])
        self.assertEqual(answers([1, 1, 0]), [1, 0])
        self.assertEqual(answers([2, 1, 0]), [1, 0])

    def test_what_is_done_to_the_answers_stays_with_them(self):
        answers(CALLS).clear()
        self.assertEqual(answers(CALLS), TOLD)


class Bounds(unittest.TestCase):
    def test_the_highest_numbers(self):
        top = HIGHEST
        self.assertEqual(answers([0, 1, top]), [1, -1])
        self.assertEqual(answers([0, 20] + [top] * 20), [1, -1])
        self.assertEqual(answers([1, top, 0]), [1, -1])
        self.assertEqual(answers([1, 1, 1, top]), [1, -1])
        self.assertEqual(answers([1, top, 20] + [top] * 20), [1, -1])
        self.assertEqual(answers([2, top, 0]), [1, -1])
        self.assertEqual(answers([0, 1, 5, 2, 1, 1, top]), [1, 1, 1, -1])
        self.assertEqual(answers([2, top, 20] + [top] * 20), [1, -1])

    def test_forty_calls(self):
        self.assertEqual(answers([3] * 40), [1, 0] * 40)
        self.assertEqual(answers([0, 1, 5] * 40), [1, 1] * 40)
        filled = [0, 6, 1, 2, 3, 4, 5, 6] + [1, 5, 6, 0, 1, 2, 3, 4, 5] * 10
        told = answers(filled + [3] * 29)
        pairs = [15]
        for lower in range(6):
            for higher in range(lower + 1, 6):
                pairs += [4, lower, higher, 0, 0]
        start = [1, 6]
        for number in range(10):
            start += [1, number]
        self.assertEqual(told, start + ([76] + pairs) * 29)


if __name__ == "__main__":
    unittest.main()
