"""Promise 4, of fewest: how few are engaged, in how many castings, the earliest of them, and what that one costs."""

import unittest

from calling import ask, begins, cheapest, fewest, last, player, scene


class Right(unittest.TestCase):
    def test_one_player_one_role(self):
        self.assertEqual(last(begins([5]), player(10, [4]), fewest()), [1, 2, 1, 13, 1, 0, 1, 0])

    def test_one_for_all_however_dear(self):
        told = ask(
            begins([0, 0]), player(0, [1, 0]), player(0, [0, 1]), player(100000, [100001, 100001]),
            cheapest(), fewest(),
        )
        self.assertEqual(told[4], [0, 2, 1, 0, 2, 0, 1, 2, 0, 1])
        self.assertEqual(told[5], [1, 2, 1, 300000, 2, 2, 2, 1, 2])

    def test_two_where_roles_clash(self):
        told = last(begins([0, 0, 0]), scene(5, [0, 2]), *[player(3, [1, 2, 1])] * 3, fewest())
        # Roles 0 and 2 by different players, role 1 by one of them.
        self.assertEqual(told, [2, 2, 12, 7, 3, 0, 0, 1, 2, 0, 1])

    def test_time_to_dress(self):
        for minutes, told in ((9, [2, 2, 2, 2, 2, 0, 1, 2, 0, 1]), (10, [1, 2, 2, 1, 2, 0, 0, 1, 0])):
            self.assertEqual(
                last(
                    begins([0, 10]), scene(60, [0]), scene(minutes, []), scene(60, [1]),
                    player(1, [1, 1]), player(1, [1, 1]), fewest(),
                ),
                told,
            )

    def test_all_five(self):
        told = last(begins([0] * 5), scene(0, [0, 1, 2, 3, 4]), *[player(1, [1] * 5)] * 5, fewest())
        self.assertEqual(told, [5, 2, 120, 5, 5, 0, 1, 2, 3, 4, 5, 0, 1, 2, 3, 4])


class AsFew(unittest.TestCase):
    def test_whatever_they_cost(self):
        told = last(begins([0, 0]), player(50, [1, 1]), player(3, [1, 1]), player(70, [1, 0]), fewest())
        self.assertEqual(told, [1, 2, 2, 50, 2, 0, 0, 1, 0])

    def test_the_earliest_one_though_another_costs_less(self):
        told = last(begins([0]), player(9, [6]), player(0, [1]), fewest())
        self.assertEqual(told, [1, 2, 2, 14, 1, 0, 1, 0])

    def test_the_earliest_one_that_costs_less_too(self):
        told = last(begins([0]), player(0, [1]), player(9, [6]), fewest())
        self.assertEqual(told, [1, 2, 2, 0, 1, 0, 1, 0])

    def test_the_earliest_of_so_few_and_not_of_all(self):
        # [0, 1] is earlier, but two are engaged.
        told = last(begins([0, 0]), player(0, [1, 0]), player(5, [1, 1]), fewest())
        self.assertEqual(told, [1, 2, 1, 5, 2, 1, 1, 1, 1])

    def test_those_engaged_rise(self):
        told = last(
            begins([0, 0, 0, 0]), player(1, [0, 0, 0, 1]), player(1, [0, 1, 0, 0]), player(1, [1, 0, 1, 0]),
            fewest(),
        )
        self.assertEqual(told, [3, 2, 1, 3, 4, 2, 1, 2, 0, 3, 0, 1, 2])


class NoneRight(unittest.TestCase):
    def test_no_players(self):
        self.assertEqual(last(begins([5]), fewest()), [-6])

    def test_a_role_that_nobody_can_play(self):
        for role in range(3):
            fees = [1, 1, 1]
            fees[role] = 0
            self.assertEqual(last(begins([0, 0, 0]), player(1, fees), player(1, fees), fewest()), [-6])

    def test_clashes_that_leave_no_player(self):
        handed = [begins([0, 0, 0]), scene(5, [0, 1, 2]), player(1, [1, 1, 1]), player(1, [1, 1, 1])]
        self.assertEqual(last(*handed, fewest()), [-6])
        self.assertEqual(last(*handed, player(1, [1, 0, 0]), fewest()), [3, 2, 2, 3, 3, 2, 0, 1, 3, 0, 1, 2])


class NoRoles(unittest.TestCase):
    def test_the_empty_casting(self):
        empty = [0, 2, 1, 0, 0, 0]
        self.assertEqual(last(fewest()), empty)
        self.assertEqual(last(scene(5, []), fewest()), empty)
        self.assertEqual(last(player(9, []), fewest()), empty)
        self.assertEqual(last(begins([]), fewest()), empty)


class Bounds(unittest.TestCase):
    def test_the_greatest_wages_and_fees(self):
        dear = [player(100000, [100001] * 6)] * 5
        self.assertEqual(
            last(begins([0] * 6), scene(0, [0, 1, 2, 3, 4]), *dear, fewest()),
            [5, 2, 600, 1100000, 6, 0, 1, 2, 3, 4, 0, 5, 0, 1, 2, 3, 4],
        )

    def test_many_calls(self):
        handed = [begins([0] * 6)] + [player(1, [2] * 6)] * 5
        told = ask(*handed, *[fewest()] * 34)
        self.assertEqual(told[6:], [[1, 2, 5, 7, 6, 0, 0, 0, 0, 0, 0, 1, 0]] * 34)


if __name__ == "__main__":
    unittest.main()
