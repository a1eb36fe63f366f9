"""Promise 4, on many plays: each call answers what a second reading of the words answers."""

import unittest

from calling import HIGHEST, ask, cheapest, check, fewest, ill
from second_reading import Told, many_plays


class AsTheWordsSay(unittest.TestCase):
    def same_as_the_words(self, play, asked, due):
        begun = play.calls()
        self.assertEqual(ask(*begun, *asked)[len(begun):], due, begun)

    def test_cheapest_and_fewest(self):
        for play in many_plays(250, 5, 4):
            self.same_as_the_words(play, [cheapest(), fewest()], [play.cheapest(), play.fewest()])

    def test_ill(self):
        for play in many_plays(250, 4, 5):
            numbers = list(range(6)) + [HIGHEST]
            self.same_as_the_words(play, [ill(number) for number in numbers], [play.ill(number) for number in numbers])

    def test_check_of_every_casting(self):
        for play in many_plays(150, 4, 3):
            castings = play.castings() + [[], [0], [0] * 5, [3] * len(play.dressing)]
            self.same_as_the_words(
                play, [check(casting) for casting in castings], [play.check(casting) for casting in castings],
            )

    def test_six_roles_and_five_players(self):
        dressing = [4, 7, 2, 9, 0, 5]
        scenes = [
            (3, [0, 2]), (2, [1]), (6, [3]), (1, []), (4, [0, 4]), (0, [5]), (5, [2]), (3, [1, 3]), (2, []), (1, [4]),
        ]
        players = [
            (20, [1, None, 4, 2, 3, 3]), (10, [2, 3, 3, 3, 3, 3]), (20, [2, 2, None, 1, 4, 4]),
            (10, [5, 5, 5, 5, 5, 5]), (0, [9, 9, 9, 9, None, 9]),
        ]
        play = Told(dressing, scenes, players)
        numbers = list(range(6))
        self.same_as_the_words(
            play,
            [cheapest(), fewest()] + [ill(number) for number in numbers],
            [play.cheapest(), play.fewest()] + [play.ill(number) for number in numbers],
        )

    def test_the_plays_are_of_all_kinds(self):
        plays = list(many_plays(250, 4, 5))
        answers = [play.ill(number) for play in plays for number in range(6)]
        for refusal in (-2, -6, -3):
            self.assertIn([refusal], answers)
        self.assertTrue(any(answer[0] > 0 for answer in answers))
        self.assertTrue(any(play.cheapest()[0] > 0 and play.cheapest()[2] > 1 for play in plays))


if __name__ == "__main__":
    unittest.main()
