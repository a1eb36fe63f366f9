"""Promise 2: what scene takes and what it refuses."""

import unittest

from calling import HIGHEST, ask, begins, clashes, last, scene

TEN = [scene(1, [0])] * 10


class Taken(unittest.TestCase):
    def test_numbers_from_0(self):
        told = ask(begins([5]), *TEN)
        self.assertEqual(told[1:], [[number] for number in range(10)])

    def test_none_to_a_thousand_minutes(self):
        self.assertEqual(last(begins([5]), scene(0, [0])), [0])
        self.assertEqual(last(begins([5]), scene(1000, [0])), [0])

    def test_all_roles_or_some_or_none(self):
        told = ask(begins([5] * 6), scene(1, [0, 1, 2, 3, 4, 5]), scene(1, [1, 4]), scene(1, [5]), scene(1, []))
        self.assertEqual(told[1:], [[0], [1], [2], [3]])

    def test_without_roles_while_there_are_none(self):
        self.assertEqual(ask(scene(1, []), scene(1000, [])), [[0], [1]])
        self.assertEqual(ask(*[scene(1, [])] * 11), [[number] for number in range(10)] + [[-5]])


class Refused(unittest.TestCase):
    def test_too_many_minutes(self):
        for minutes in (1001, HIGHEST):
            self.assertEqual(last(begins([5]), scene(minutes, [0])), [-1])
            self.assertEqual(last(begins([5]), scene(minutes, [])), [-1])
            self.assertEqual(last(scene(minutes, [])), [-1])

    def test_a_role_that_there_isnt(self):
        for roles in ([3], [0, 3], [HIGHEST], [0, 1, 2, HIGHEST], list(range(20))):
            with self.subTest(roles=roles):
                self.assertEqual(last(begins([5, 5, 5]), scene(1, roles)), [-1])
        self.assertEqual(last(begins([5] * 6), scene(1, [6])), [-1])
        self.assertEqual(last(scene(1, [0])), [-1])

    def test_roles_that_dont_rise(self):
        for roles in ([1, 0], [0, 2, 1], [0, 0], [1, 1], [0, 1, 1], [2, 0, 1], [0] * 20):
            with self.subTest(roles=roles):
                self.assertEqual(last(begins([5, 5, 5]), scene(1, roles)), [-1])

    def test_the_eleventh(self):
        for one_more in (scene(1, [0]), scene(1000, []), scene(0, [0])):
            self.assertEqual(last(begins([5]), *TEN, one_more), [-5])

    def test_the_eleventh_that_is_wrong_besides(self):
        for wrong in (scene(1001, [0]), scene(1, [1]), scene(1, [0, 0]), scene(HIGHEST, [HIGHEST])):
            self.assertEqual(last(begins([5]), *TEN, wrong), [-1])

    def test_leaves_the_play_as_it_was(self):
        # A wrong scene that stayed would lie between the two, or make the roles clash itself.
        for wrong in (scene(1001, []), scene(1001, [0, 1]), scene(9, [0, 2]), scene(9, [0, 0]), scene(9, [1, 0])):
            with self.subTest(wrong=wrong):
                told = ask(begins([5, 5]), scene(1, [0]), wrong, clashes(), scene(1, [1]), clashes())
                self.assertEqual(told[2:], [[-1], [0], [1], [1, 4, 0, 1, 0, 1]])

    def test_the_eleventh_leaves_the_play_as_it_was(self):
        told = ask(begins([0, 0]), *TEN, clashes(), scene(1, [0, 1]), clashes(), scene(1, [0]))
        self.assertEqual(told[11:], [[0], [-5], [0], [-5]])


if __name__ == "__main__":
    unittest.main()
