"""Promise 4, of cheapest: the least cost, how many castings cost as little, the earliest of them, those engaged."""

import unittest

from calling import ask, begins, cheapest, last, player, scene

TOGETHER = scene(5, [0, 1])


class Right(unittest.TestCase):
    def test_one_player_one_role(self):
        self.assertEqual(last(begins([5]), player(10, [4]), cheapest()), [13, 2, 1, 13, 1, 0, 1, 0])

    def test_a_wage_is_paid_once_and_each_fee(self):
        self.assertEqual(
            last(begins([5, 5, 5]), player(100, [2, 3, 4]), cheapest()),
            [106, 2, 1, 106, 3, 0, 0, 0, 1, 0],
        )

    def test_one_who_plays_all_or_several(self):
        # Two wages of 10 and no fees, or one wage and the fees.
        for fee, told in ((9, [19, 2, 1, 19, 2, 0, 0, 1, 0]), (11, [20, 2, 1, 20, 2, 0, 1, 2, 0, 1])):
            self.assertEqual(
                last(begins([5, 5]), player(10, [1, fee + 1]), player(10, [0, 1]), cheapest()), told,
            )

    def test_those_who_play_nothing_cost_nothing(self):
        self.assertEqual(
            last(begins([5]), player(100000, [1]), player(7, [1]), player(100000, [1]), cheapest()),
            [7, 2, 1, 7, 1, 1, 1, 1],
        )

    def test_a_role_they_cant_play_costs_more_than_any_fee(self):
        self.assertEqual(
            last(begins([5]), player(0, [0]), player(100000, [100001]), cheapest()),
            [200000, 2, 1, 200000, 1, 1, 1, 1],
        )

    def test_roles_that_clash_need_two(self):
        handed = [begins([5, 5]), player(1, [1, 1]), player(50, [1, 1])]
        self.assertEqual(last(*handed, cheapest()), [1, 2, 1, 1, 2, 0, 0, 1, 0])
        self.assertEqual(last(*handed, TOGETHER, cheapest()), [51, 2, 2, 51, 2, 0, 1, 2, 0, 1])

    def test_time_to_dress(self):
        # Role 1 takes 10 minutes to dress for; what lies between is just too short, or just enough.
        for minutes, told in ((9, [51, 2, 2, 51, 2, 0, 1, 2, 0, 1]), (10, [1, 2, 1, 1, 2, 0, 0, 1, 0])):
            self.assertEqual(
                last(
                    begins([0, 10]), scene(60, [0]), scene(minutes, []), scene(60, [1]),
                    player(1, [1, 1]), player(50, [1, 1]), cheapest(),
                ),
                told,
            )

    def test_a_clash_ahead_of_the_first_role_doesnt_hide(self):
        # Roles 1 and 2 alone clash, and roles 0 and 2 alone.
        players = [player(0, [1, 1, 1]), player(9, [1, 1, 1])]
        self.assertEqual(
            last(begins([0, 0, 0]), scene(5, [1, 2]), *players, cheapest()), [9, 2, 4, 9, 3, 0, 0, 1, 2, 0, 1],
        )
        self.assertEqual(
            last(begins([0, 0, 0]), scene(5, [0, 2]), *players, cheapest()), [9, 2, 4, 9, 3, 0, 0, 1, 2, 0, 1],
        )


class AsLittle(unittest.TestCase):
    def test_all_that_cost_as_little_are_counted(self):
        free = [player(0, [1, 1, 1])] * 4
        self.assertEqual(last(begins([0, 0, 0]), *free, cheapest()), [0, 2, 64, 0, 3, 0, 0, 0, 1, 0])

    def test_others_are_not(self):
        told = last(begins([0, 0]), player(5, [1, 1]), player(5, [1, 1]), player(6, [1, 1]), cheapest())
        self.assertEqual(told, [5, 2, 2, 5, 2, 0, 0, 1, 0])

    def test_the_earliest_differs_in_the_first_role_first(self):
        # [0, 2] and [1, 0] cost 4, and no other costs as little.
        told = last(begins([0, 0]), TOGETHER, player(1, [1, 2]), player(1, [2, 0]), player(1, [0, 3]), cheapest())
        self.assertEqual(told, [4, 2, 2, 4, 2, 0, 2, 2, 0, 2])

    def test_the_earliest_may_engage_more(self):
        # One wage of 10 for both, or none for the first role and 10 for the second.
        told = last(begins([0, 0]), player(0, [1, 0]), player(10, [1, 1]), cheapest())
        self.assertEqual(told, [10, 2, 2, 10, 2, 0, 1, 2, 0, 1])

    def test_those_engaged_rise(self):
        told = last(
            begins([0, 0, 0, 0]), player(1, [0, 0, 0, 1]), player(1, [0, 1, 0, 0]), player(1, [1, 0, 1, 0]),
            cheapest(),
        )
        self.assertEqual(told, [3, 2, 1, 3, 4, 2, 1, 2, 0, 3, 0, 1, 2])


class NoneRight(unittest.TestCase):
    def test_no_players(self):
        self.assertEqual(last(begins([5]), cheapest()), [-6])
        self.assertEqual(last(begins([5] * 6), scene(5, [0]), cheapest()), [-6])

    def test_a_role_that_nobody_can_play(self):
        for role in range(3):
            fees = [1, 1, 1]
            fees[role] = 0
            self.assertEqual(last(begins([0, 0, 0]), player(1, fees), player(1, fees), cheapest()), [-6])

    def test_clashes_that_leave_no_player(self):
        handed = [begins([0, 0, 0]), scene(5, [0, 1, 2]), player(1, [1, 1, 1]), player(1, [1, 1, 1])]
        self.assertEqual(last(*handed, cheapest()), [-6])
        self.assertEqual(last(*handed, player(1, [1, 0, 0]), cheapest()), [3, 2, 2, 3, 3, 2, 0, 1, 3, 0, 1, 2])

    def test_is_no_end_of_it(self):
        told = ask(begins([5]), cheapest(), player(1, [0]), cheapest(), player(1, [1]), cheapest())
        self.assertEqual(told[1::2], [[-6], [-6], [1, 2, 1, 1, 1, 1, 1, 1]])


class NoRoles(unittest.TestCase):
    def test_the_empty_casting(self):
        empty = [0, 2, 1, 0, 0, 0]
        self.assertEqual(last(cheapest()), empty)
        self.assertEqual(last(scene(5, []), cheapest()), empty)
        self.assertEqual(last(player(9, []), player(9, []), cheapest()), empty)
        self.assertEqual(last(begins([]), cheapest()), empty)


class Bounds(unittest.TestCase):
    def test_the_greatest_wages_and_fees(self):
        six = scene(0, [0, 1, 2, 3, 4, 5])
        dear = [player(100000, [100001] * 6)] * 5
        self.assertEqual(
            last(begins([0] * 6), *dear, cheapest()), [700000, 2, 5, 700000, 6, 0, 0, 0, 0, 0, 0, 1, 0],
        )
        self.assertEqual(last(begins([0] * 6), six, *dear, cheapest()), [-6])
        self.assertEqual(
            last(begins([0] * 6), scene(0, [0, 1, 2, 3, 4]), *dear, cheapest()),
            [1100000, 2, 600, 1100000, 6, 0, 1, 2, 3, 4, 0, 5, 0, 1, 2, 3, 4],
        )

    def test_as_many_castings_as_there_can_be(self):
        told = last(begins([0] * 6), *[player(0, [1] * 6)] * 5, cheapest())
        self.assertEqual(told, [0, 2, 15625, 0, 6, 0, 0, 0, 0, 0, 0, 1, 0])

    def test_the_last_of_all_castings(self):
        told = last(begins([0] * 6), *[player(1, [1] * 6)] * 4, player(0, [1] * 6), cheapest())
        self.assertEqual(told, [0, 2, 1, 0, 6, 4, 4, 4, 4, 4, 4, 1, 4])

    def test_many_calls(self):
        handed = [begins([0] * 6)] + [player(0, [1] * 6)] * 5
        told = ask(*handed, *[cheapest()] * 34)
        self.assertEqual(told[6:], [[0, 2, 15625, 0, 6, 0, 0, 0, 0, 0, 0, 1, 0]] * 34)


if __name__ == "__main__":
    unittest.main()
