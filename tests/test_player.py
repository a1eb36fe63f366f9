"""Promise 3: what player takes and what it refuses."""

import unittest

from calling import HIGHEST, ask, begins, clashes, last, player, scene

FIVE = [player(1, [1, 1])] * 5


class Taken(unittest.TestCase):
    def test_numbers_from_0(self):
        told = ask(begins([5, 5]), *FIVE)
        self.assertEqual(told[1:], [[number] for number in range(5)])

    def test_the_highest_wage_and_fee(self):
        told = ask(begins([5, 5]), player(100000, [1, 1]), player(0, [100001, 1]), player(100000, [100001, 100001]))
        self.assertEqual(told[1:], [[0], [1], [2]])

    def test_roles_they_cant_play(self):
        told = ask(begins([5, 5]), player(7, [0, 1]), player(7, [0, 0]), player(0, [0, 100001]))
        self.assertEqual(told[1:], [[0], [1], [2]])

    def test_a_fee_for_each_of_six_roles(self):
        self.assertEqual(last(begins([5] * 6), player(1, [1, 2, 3, 4, 5, 6])), [0])

    def test_without_fees_while_there_are_no_roles(self):
        self.assertEqual(ask(*[player(1, [])] * 6), [[0], [1], [2], [3], [4], [-5]])


class Refused(unittest.TestCase):
    def test_a_wage_too_high(self):
        for wage in (100001, HIGHEST):
            self.assertEqual(last(begins([5, 5]), player(wage, [1, 1])), [-1])
            self.assertEqual(last(player(wage, [])), [-1])

    def test_a_fee_too_high(self):
        for fee in (100002, HIGHEST):
            self.assertEqual(last(begins([5, 5]), player(1, [fee, 1])), [-1])
            self.assertEqual(last(begins([5, 5]), player(1, [1, fee])), [-1])

    def test_too_few_or_too_many_fees(self):
        for count in [0, 1] + list(range(3, 21)):
            with self.subTest(count=count):
                self.assertEqual(last(begins([5, 5]), player(1, [1] * count)), [-1])
        self.assertEqual(last(player(1, [1])), [-1])
        self.assertEqual(last(player(1, [0])), [-1])

    def test_the_sixth(self):
        for one_more in (player(1, [1, 1]), player(100000, [100001, 0]), player(0, [0, 0])):
            self.assertEqual(last(begins([5, 5]), *FIVE, one_more), [-5])

    def test_the_sixth_that_is_wrong_besides(self):
        wrongs = (
            player(100001, [1, 1]), player(1, [1, 100002]), player(1, [1]), player(1, []), player(1, [1, 1, 1]),
        )
        for wrong in wrongs:
            self.assertEqual(last(begins([5, 5]), *FIVE, wrong), [-1])

    def test_leaves_the_play_as_it_was(self):
        wrongs = (player(100001, [1, 1]), player(1, [1, 100002]), player(1, [1]), player(1, [1, 1, 1]))
        for wrong in wrongs:
            with self.subTest(wrong=wrong):
                told = ask(
                    begins([5, 5]), scene(1, [0, 1]), player(1, [1, 1]),
                    wrong, wrong,
                    clashes(), player(1, [1, 1]), scene(1, []),
                )
                self.assertEqual(told[3:], [[-1], [-1], [1, 4, 0, 1, 0, 0], [1], [1]])

    def test_the_sixth_leaves_the_play_as_it_was(self):
        told = ask(begins([5, 5]), scene(1, [0, 1]), *FIVE, player(1, [1, 1]), player(1, [1, 1]), clashes())
        self.assertEqual(told[7:], [[-5], [-5], [1, 4, 0, 1, 0, 0]])


if __name__ == "__main__":
    unittest.main()
