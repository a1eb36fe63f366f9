"""Promise 4, of ill: how much more it costs without a player, the earliest casting then, and what is refused."""

import unittest

from calling import HIGHEST, ask, begins, ill, last, player, scene


class Without(unittest.TestCase):
    def test_how_much_more(self):
        handed = [begins([0, 0]), player(10, [1, 2]), player(25, [4, 5])]
        # 11 by the first one alone, 32 by the second one alone.
        self.assertEqual(last(*handed, ill(0)), [21, 2, 1, 1])

    def test_one_who_plays_nothing_in_the_cheapest(self):
        handed = [begins([0, 0]), player(10, [1, 2]), player(25, [4, 5])]
        self.assertEqual(last(*handed, ill(1)), [0, 2, 0, 0])

    def test_another_one_as_cheap(self):
        handed = [begins([0, 0])] + [player(10, [1, 2])] * 3
        self.assertEqual(ask(*handed, ill(0), ill(1), ill(2))[4:], [[0, 2, 1, 1], [0, 2, 0, 0], [0, 2, 0, 0]])

    def test_of_several_as_cheap_the_earliest(self):
        handed = [begins([0, 0]), player(0, [1, 1]), player(9, [1, 1]), player(5, [1, 1]), player(5, [1, 1])]
        self.assertEqual(last(*handed, ill(0)), [5, 2, 2, 2])

    def test_the_earliest_of_the_cheapest_and_not_of_all(self):
        handed = [begins([0]), player(7, [1]), player(1, [1]), player(3, [1])]
        self.assertEqual(last(*handed, ill(1)), [2, 1, 2])

    def test_several_who_come_in_for_one(self):
        handed = [begins([0, 0]), player(1, [0, 3]), player(1, [1, 1]), player(4, [2, 0])]
        # Alone 1; without them 1 and a fee of 2, 4 and a fee of 1.
        self.assertEqual(last(*handed, ill(1)), [7, 2, 2, 0])

    def test_roles_that_clash(self):
        handed = [begins([0, 0]), scene(5, [0, 1]), player(1, [1, 1]), player(2, [1, 1]), player(8, [1, 1])]
        self.assertEqual(
            ask(*handed, ill(0), ill(1), ill(2))[5:], [[7, 2, 1, 2], [6, 2, 0, 2], [0, 2, 0, 1]],
        )

    def test_the_player_of_each_number(self):
        handed = [begins([0])] + [player(wage, [1]) for wage in (4, 3, 2, 1, 0)]
        self.assertEqual(
            ask(*handed, *[ill(number) for number in range(5)])[6:],
            [[0, 1, 4], [0, 1, 4], [0, 1, 4], [0, 1, 4], [1, 1, 3]],
        )


class Refused(unittest.TestCase):
    def test_no_such_player(self):
        handed = [begins([0]), player(1, [1]), player(1, [1])]
        for number in (2, 5, HIGHEST):
            self.assertEqual(last(*handed, ill(number)), [-2])

    def test_no_players(self):
        self.assertEqual(last(begins([0]), ill(0)), [-2])
        self.assertEqual(last(begins([0]), ill(HIGHEST)), [-2])

    def test_no_casting_is_right_already(self):
        self.assertEqual(last(begins([0, 0]), player(1, [1, 0]), player(1, [1, 0]), ill(1)), [-6])
        self.assertEqual(last(begins([0, 0]), scene(1, [0, 1]), player(1, [1, 1]), ill(0)), [-6])

    def test_none_is_right_without_them(self):
        self.assertEqual(last(begins([0]), player(1, [1]), ill(0)), [-3])
        handed = [begins([0, 0]), player(1, [1, 1]), player(1, [1, 0])]
        self.assertEqual(ask(*handed, ill(0), ill(1))[3:], [[-3], [0, 2, 0, 0]])

    def test_clashes_that_leave_none_without_them(self):
        handed = [begins([0, 0]), scene(1, [0, 1]), player(1, [1, 1]), player(1, [1, 1])]
        self.assertEqual(ask(*handed, ill(0), ill(1))[4:], [[-3], [-3]])

    def test_no_such_player_and_no_right_casting(self):
        self.assertEqual(last(begins([0]), player(1, [0]), ill(1)), [-2])
        self.assertEqual(last(begins([0]), player(1, [0]), ill(HIGHEST)), [-2])

    def test_no_right_casting_with_and_without(self):
        self.assertEqual(last(begins([0]), player(1, [0]), ill(0)), [-6])


class NoRoles(unittest.TestCase):
    def test_the_empty_casting_is_without_anybody(self):
        self.assertEqual(last(player(9, []), ill(0)), [0, 0])
        self.assertEqual(last(player(9, []), player(8, []), scene(5, []), ill(1)), [0, 0])

    def test_no_such_player(self):
        self.assertEqual(last(ill(0)), [-2])
        self.assertEqual(last(player(9, []), ill(1)), [-2])
        self.assertEqual(last(begins([]), ill(HIGHEST)), [-2])


class Bounds(unittest.TestCase):
    def test_the_greatest_wages_and_fees(self):
        cheap = player(0, [1] * 6)
        dear = player(100000, [100001] * 6)
        self.assertEqual(last(begins([0] * 6), cheap, dear, ill(0)), [700000, 6, 1, 1, 1, 1, 1, 1])
        # Three dear ones, for a role each, besides the cheap one; four of them for all roles without.
        handed = [begins([0] * 6)] + [scene(0, [0, 1, 2, 3])] * 10 + [cheap] + [dear] * 4
        self.assertEqual(last(*handed, ill(0)), [1000000 - 600000, 6, 1, 2, 3, 4, 1, 1])

    def test_many_calls(self):
        handed = [begins([0] * 6)] + [player(1, [1] * 6)] * 5
        told = ask(*handed, *[ill(0), ill(4)] * 17)
        self.assertEqual(told[6:], [[0, 6, 1, 1, 1, 1, 1, 1], [0, 6, 0, 0, 0, 0, 0, 0]] * 17)


if __name__ == "__main__":
    unittest.main()
