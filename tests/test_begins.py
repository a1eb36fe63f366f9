"""Promise 1: what begins takes, what it refuses, and that it makes the play a new one."""

import unittest

from calling import HIGHEST, ask, begins, clashes, last, player, scene


class Taken(unittest.TestCase):
    def test_one_to_six_roles(self):
        for count in range(1, 7):
            with self.subTest(count=count):
                self.assertEqual(last(begins([5] * count)), [count])

    def test_none_to_a_thousand_minutes(self):
        self.assertEqual(last(begins([1000, 0, 1000])), [3])
        self.assertEqual(last(begins([1000] * 6)), [6])
        self.assertEqual(last(begins([0])), [1])


class Refused(unittest.TestCase):
    def test_too_few_or_too_many_roles(self):
        for count in [0] + list(range(7, 21)):
            with self.subTest(count=count):
                self.assertEqual(last(begins([5] * count)), [-1])

    def test_too_many_minutes_of_any_role(self):
        for minutes in (1001, HIGHEST):
            for role in range(6):
                with self.subTest(minutes=minutes, role=role):
                    dressing = [1000] * 6
                    dressing[role] = minutes
                    self.assertEqual(last(begins(dressing)), [-1])
        self.assertEqual(last(begins([1001])), [-1])

    def test_leaves_the_play_as_it_was(self):
        for wrong in ([], [1] * 7, [1, 1001], [1001]):
            with self.subTest(wrong=wrong):
                told = ask(
                    begins([4, 4, 4]), scene(3, [0]), scene(3, [1]), player(1, [1, 1, 1]), clashes(),
                    begins(wrong),
                    clashes(), scene(3, [2]), player(1, [1, 1, 1]), clashes(),
                )
                pair = [1, 4, 0, 1, 0, 1]
                self.assertEqual(told[4:], [
                    pair, [-1], pair, [2], [1],
                    [3, 4, 0, 1, 0, 1, 4, 0, 2, 0, 2, 4, 1, 2, 1, 2],
                ])

    def test_a_play_without_roles_stays_so(self):
        self.assertEqual(ask(begins([]), scene(1, [0]), scene(1, []), clashes()), [[-1], [-1], [0], [0]])


class NewPlay(unittest.TestCase):
    def test_has_no_scenes(self):
        self.assertEqual(
            ask(begins([5, 5]), scene(1, [0, 1]), clashes(), begins([5, 5]), clashes(), scene(1, [0])),
            [[2], [0], [1, 4, 0, 1, 0, 0], [2], [0], [0]],
        )

    def test_has_room_for_all_scenes_again(self):
        scenes = [scene(1, [0])] * 10
        told = ask(begins([5]), *scenes, begins([5]), *scenes, scene(1, [0]))
        numbers = [[number] for number in range(10)]
        self.assertEqual(told, [[1]] + numbers + [[1]] + numbers + [[-5]])

    def test_has_no_players(self):
        players = [player(1, [1])] * 5
        told = ask(begins([5]), *players, begins([5]), *players, player(1, [1]))
        numbers = [[number] for number in range(5)]
        self.assertEqual(told, [[1]] + numbers + [[1]] + numbers + [[-5]])

    def test_drops_what_came_ahead_of_the_first_roles(self):
        told = ask(scene(1, []), player(1, []), begins([5]), scene(1, [0]), player(1, [1]))
        self.assertEqual(told, [[0], [0], [1], [0], [0]])

    def test_has_its_own_roles(self):
        told = ask(
            begins([5, 5, 5]), begins([5]),
            scene(1, [1]), scene(1, [0]), player(1, [1, 1, 1]), player(1, [1]),
        )
        self.assertEqual(told, [[3], [1], [-1], [0], [-1], [0]])

    def test_has_its_own_minutes_to_dress(self):
        told = ask(
            begins([5, 5]), scene(0, [0]), scene(0, [1]), clashes(),
            begins([5, 0]), scene(0, [0]), scene(0, [1]), clashes(),
        )
        self.assertEqual(told[3], [1, 4, 0, 1, 0, 1])
        self.assertEqual(told[7], [0])


if __name__ == "__main__":
    unittest.main()
