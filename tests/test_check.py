"""Promise 4, of check: what a right casting costs, what is wrong with another one first, and what is refused."""

import unittest

from calling import HIGHEST, ask, begins, check, last, player, scene


class Right(unittest.TestCase):
    def test_what_it_costs_and_those_engaged(self):
        handed = [begins([5, 5]), player(10, [3, 4]), player(20, [5, 6])]
        self.assertEqual(last(*handed, check([0, 0])), [1, 1, 15, 1, 0])
        self.assertEqual(last(*handed, check([0, 1])), [1, 1, 37, 2, 0, 1])
        self.assertEqual(last(*handed, check([1, 0])), [1, 1, 37, 2, 0, 1])
        self.assertEqual(last(*handed, check([1, 1])), [1, 1, 29, 1, 1])

    def test_a_wage_is_paid_once_though_another_plays_between(self):
        handed = [begins([0, 0, 0]), player(10, [1, 1, 1]), player(200, [1, 1, 1])]
        self.assertEqual(last(*handed, check([0, 1, 0])), [1, 1, 210, 2, 0, 1])

    def test_those_engaged_rise(self):
        handed = [begins([0] * 6)] + [player(1, [1] * 6)] * 5
        self.assertEqual(last(*handed, check([4, 2, 4, 0, 2, 3])), [1, 1, 4, 4, 0, 2, 3, 4])

    def test_roles_that_clash_by_different_players(self):
        handed = [begins([9, 9]), scene(1, [0, 1]), player(1, [1, 1]), player(2, [1, 1])]
        self.assertEqual(last(*handed, check([1, 0])), [1, 1, 3, 2, 0, 1])

    def test_time_to_dress(self):
        for minutes, told in ((9, [0, 3, 2, 0, 1]), (10, [1, 1, 1, 1, 0])):
            self.assertEqual(
                last(
                    begins([0, 10]), scene(60, [0]), scene(minutes, []), scene(60, [1]),
                    player(1, [1, 1]), check([0, 0]),
                ),
                told,
            )

    def test_the_greatest_wages_and_fees(self):
        dear = [player(100000, [100001] * 6)] * 5
        self.assertEqual(
            last(begins([0] * 6), *dear, check([4, 3, 2, 1, 0, 0])), [1, 1, 1100000, 5, 0, 1, 2, 3, 4],
        )


class CantPlay(unittest.TestCase):
    def test_the_role_and_its_player(self):
        handed = [begins([0, 0, 0]), player(1, [1, 1, 1]), player(1, [1, 1, 0])]
        self.assertEqual(last(*handed, check([0, 0, 1])), [0, 3, 1, 2, 1])

    def test_the_lowest_role(self):
        handed = [begins([0, 0, 0]), player(1, [1, 1, 0]), player(1, [1, 0, 0])]
        self.assertEqual(last(*handed, check([0, 1, 0])), [0, 3, 1, 1, 1])
        self.assertEqual(last(*handed, check([1, 0, 0])), [0, 3, 1, 2, 0])

    def test_role_0_and_player_0(self):
        self.assertEqual(last(begins([0]), player(1, [0]), check([0])), [0, 3, 1, 0, 0])

    def test_ahead_of_roles_that_clash(self):
        handed = [begins([0, 0, 0]), scene(1, [0, 1]), player(1, [1, 1, 1]), player(1, [0, 0, 0])]
        self.assertEqual(last(*handed, check([0, 0, 1])), [0, 3, 1, 2, 1])
        self.assertEqual(last(*handed, check([1, 1, 0])), [0, 3, 1, 0, 1])


class RolesClash(unittest.TestCase):
    def test_the_lower_role_first(self):
        # Role 1 comes ahead in the play.
        handed = [begins([9, 9]), scene(1, [1]), scene(1, [0]), player(1, [1, 1])]
        self.assertEqual(last(*handed, check([0, 0])), [0, 3, 2, 0, 1])

    def test_the_lowest_first_role(self):
        # 1 and 2 clash, and 0 and 3; of the second roles the first pair has the lower one.
        handed = [begins([0] * 4), scene(1, [1, 2]), scene(1, [0, 3])] + [player(1, [1] * 4)] * 2
        self.assertEqual(last(*handed, check([0, 0, 0, 0])), [0, 3, 2, 0, 3])
        self.assertEqual(last(*handed, check([0, 1, 1, 0])), [0, 3, 2, 0, 3])
        self.assertEqual(last(*handed, check([0, 0, 0, 1])), [0, 3, 2, 1, 2])

    def test_the_lowest_second_role_then(self):
        handed = [begins([0] * 4), scene(1, [0, 3]), scene(1, [0, 2])] + [player(1, [1] * 4)] * 2
        self.assertEqual(last(*handed, check([0, 0, 0, 0])), [0, 3, 2, 0, 2])
        self.assertEqual(last(*handed, check([0, 0, 1, 0])), [0, 3, 2, 0, 3])

    def test_of_one_player_alone(self):
        handed = [begins([0] * 3), scene(1, [0, 1, 2])] + [player(1, [1] * 3)] * 3
        self.assertEqual(last(*handed, check([0, 1, 0])), [0, 3, 2, 0, 2])
        self.assertEqual(last(*handed, check([2, 1, 1])), [0, 3, 2, 1, 2])
        self.assertEqual(last(*handed, check([2, 1, 0])), [1, 1, 3, 3, 0, 1, 2])


class Refused(unittest.TestCase):
    def test_not_as_many_players_as_there_are_roles(self):
        handed = [begins([0, 0, 0]), player(1, [1, 1, 1])]
        for count in [0, 1, 2] + list(range(4, 21)):
            with self.subTest(count=count):
                self.assertEqual(last(*handed, check([0] * count)), [-1])

    def test_a_player_that_there_isnt(self):
        handed = [begins([0, 0]), player(1, [1, 1]), player(1, [1, 1])]
        for casting in ([2, 0], [0, 2], [HIGHEST, 0], [0, HIGHEST], [HIGHEST, HIGHEST]):
            with self.subTest(casting=casting):
                self.assertEqual(last(*handed, check(casting)), [-1])

    def test_while_there_are_no_players(self):
        self.assertEqual(last(begins([0]), check([0])), [-1])
        self.assertEqual(last(begins([0]), check([])), [-1])

    def test_ahead_of_what_is_wrong(self):
        handed = [begins([0, 0]), scene(1, [0, 1]), player(1, [1, 1]), player(1, [0, 0])]
        self.assertEqual(last(*handed, check([1, 2])), [-1])
        self.assertEqual(last(*handed, check([0, 0, 0])), [-1])
        self.assertEqual(last(*handed, check([1])), [-1])

    def test_the_greatest_numbers(self):
        self.assertEqual(last(begins([0] * 6), player(1, [1] * 6), check([HIGHEST] * 20)), [-1])
        self.assertEqual(last(check([HIGHEST] * 20)), [-1])


class NoRoles(unittest.TestCase):
    def test_the_empty_casting_is_right(self):
        self.assertEqual(last(check([])), [1, 1, 0, 0])
        self.assertEqual(last(player(9, []), scene(5, []), check([])), [1, 1, 0, 0])
        self.assertEqual(last(begins([]), check([])), [1, 1, 0, 0])

    def test_any_other_one_is_refused(self):
        self.assertEqual(last(check([0])), [-1])
        self.assertEqual(last(player(9, []), check([0])), [-1])


class Bounds(unittest.TestCase):
    def test_many_calls(self):
        handed = [begins([0] * 6), scene(1, [4, 5])] + [player(1, [1] * 6)] * 5
        told = ask(*handed, *[check([0, 1, 2, 3, 4, 4]), check([0, 1, 2, 3, 4, 0])] * 16)
        self.assertEqual(told[7:], [[0, 3, 2, 4, 5], [1, 1, 5, 5, 0, 1, 2, 3, 4]] * 16)


if __name__ == "__main__":
    unittest.main()
