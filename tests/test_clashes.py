"""clashes: which pairs of roles clash, where first, and in which order they are told."""

import itertools
import unittest

from calling import ask, begins, clashes, last, player, scene


def pairs_of(dressing, scenes):
    return last(begins(dressing), *[scene(minutes, roles) for minutes, roles in scenes], clashes())


def pairs_by_the_words(dressing, scenes):
    """All the scenes at which two roles clash, sorted; of each pair the first."""
    every = []
    numbered = list(enumerate(scenes))
    for (one, (_, roles)), (other, (_, later_roles)) in itertools.product(numbered, repeat=2):
        if one > other:
            continue
        between = 0
        for number, (long, _) in enumerate(scenes):
            if one < number < other:
                between += long
        for early, late in itertools.product(roles, later_roles):
            if early != late and (one == other or between < dressing[late]):
                if early < late:
                    every.append((early, late, one, other))
                else:
                    every.append((late, early, other, one))
    first = {}
    for clash in sorted(every):
        first.setdefault(clash[:2], clash)
    told = [len(first)]
    for pair in sorted(first):
        told += [4, *first[pair]]
    return told


class NoPairs(unittest.TestCase):
    def test_no_roles(self):
        self.assertEqual(last(clashes()), [0])
        self.assertEqual(last(scene(5, []), player(1, []), clashes()), [0])

    def test_no_scenes(self):
        self.assertEqual(pairs_of([5, 5, 5], []), [0])

    def test_one_role_alone(self):
        self.assertEqual(pairs_of([1000], [(0, [0]), (0, [0]), (1, [])]), [0])

    def test_a_role_that_is_in_no_scene(self):
        self.assertEqual(pairs_of([1000, 1000], [(0, [0]), (0, [])]), [0])

    def test_scenes_without_roles(self):
        self.assertEqual(pairs_of([1000, 1000], [(0, []), (0, [])]), [0])


class SameScene(unittest.TestCase):
    def test_clashes_however_long_the_scene(self):
        for minutes in (0, 1, 1000):
            self.assertEqual(pairs_of([0, 0], [(minutes, [0, 1])]), [1, 4, 0, 1, 0, 0])

    def test_a_later_one(self):
        self.assertEqual(pairs_of([0, 0], [(5, [0]), (5, []), (5, [0, 1])]), [1, 4, 0, 1, 2, 2])

    def test_all_pairs_in_order(self):
        self.assertEqual(pairs_of([0] * 4, [(5, [0, 1, 2, 3])]), [
            6,
            4, 0, 1, 0, 0, 4, 0, 2, 0, 0, 4, 0, 3, 0, 0,
            4, 1, 2, 0, 0, 4, 1, 3, 0, 0,
            4, 2, 3, 0, 0,
        ])


class TwoScenes(unittest.TestCase):
    def test_too_few_minutes_between_and_just_enough(self):
        for minutes, told in ((9, [1, 4, 0, 1, 0, 2]), (10, [0]), (11, [0])):
            self.assertEqual(pairs_of([0, 10], [(0, [0]), (minutes, []), (0, [1])]), told)

    def test_the_most_minutes_there_are(self):
        self.assertEqual(pairs_of([1000, 1000], [(0, [0]), (999, []), (0, [1])]), [1, 4, 0, 1, 0, 2])
        self.assertEqual(pairs_of([1000, 1000], [(0, [0]), (1000, []), (0, [1])]), [0])

    def test_minutes_of_all_scenes_between_together(self):
        scenes = [(0, [0]), (3, []), (3, []), (4, []), (0, [1])]
        self.assertEqual(pairs_of([0, 10], scenes), [0])
        self.assertEqual(pairs_of([0, 11], scenes), [1, 4, 0, 1, 0, 4])

    def test_scenes_between_count_whoever_is_in_them(self):
        # Role 1 has time to dress behind role 0, and none behind role 2.
        told = pairs_of([0, 10, 0], [(0, [0]), (10, [2]), (0, [1])])
        self.assertEqual(told, [1, 4, 1, 2, 2, 1])

    def test_minutes_of_the_two_scenes_dont_count(self):
        self.assertEqual(pairs_of([1, 1], [(1000, [0]), (1000, [1])]), [1, 4, 0, 1, 0, 1])
        self.assertEqual(pairs_of([0, 10], [(1000, [0]), (9, []), (1000, [1])]), [1, 4, 0, 1, 0, 2])

    def test_one_behind_the_other_with_nothing_to_dress(self):
        self.assertEqual(pairs_of([0, 0], [(0, [0]), (0, [1])]), [0])

    def test_scenes_ahead_of_both_and_behind_both_dont_count(self):
        told = pairs_of([10, 10], [(1000, []), (0, [0]), (0, [1]), (1000, [])])
        self.assertEqual(told, [1, 4, 0, 1, 1, 2])

    def test_the_role_in_the_later_scene_dresses(self):
        self.assertEqual(pairs_of([1000, 0], [(5, [0]), (5, [1])]), [0])
        self.assertEqual(pairs_of([0, 1000], [(5, [1]), (5, [0])]), [0])
        self.assertEqual(pairs_of([0, 1000], [(5, [0]), (5, [1])]), [1, 4, 0, 1, 0, 1])
        self.assertEqual(pairs_of([1000, 0], [(5, [1]), (5, [0])]), [1, 4, 0, 1, 1, 0])

    def test_a_role_ahead_and_behind(self):
        # Role 0 has time to dress behind role 1, which has none behind role 0.
        self.assertEqual(pairs_of([2, 4], [(9, [0]), (3, []), (9, [1]), (3, []), (9, [0])]), [1, 4, 0, 1, 0, 2])
        self.assertEqual(pairs_of([4, 2], [(9, [0]), (3, []), (9, [1]), (3, []), (9, [0])]), [1, 4, 0, 1, 4, 2])


class First(unittest.TestCase):
    def test_the_earliest_scene_of_the_lower_role(self):
        # Both are in scene 1, but the lower role clashes from scene 0 on already.
        self.assertEqual(pairs_of([0, 10], [(5, [0]), (5, [0, 1])]), [1, 4, 0, 1, 0, 1])

    def test_an_earlier_scene_of_the_lower_role_goes_ahead_of_a_nearer_one(self):
        scenes = [(0, [1]), (0, [0]), (9, [0]), (0, [1])]
        self.assertEqual(pairs_of([0, 9], scenes), [1, 4, 0, 1, 2, 3])
        self.assertEqual(pairs_of([0, 10], scenes), [1, 4, 0, 1, 1, 3])
        self.assertEqual(pairs_of([1, 10], scenes), [1, 4, 0, 1, 1, 0])

    def test_the_earliest_scene_of_the_higher_role_then(self):
        scenes = [(0, [1]), (0, [0]), (0, [1])]
        self.assertEqual(pairs_of([5, 5], scenes), [1, 4, 0, 1, 1, 0])
        self.assertEqual(pairs_of([0, 5], scenes), [1, 4, 0, 1, 1, 2])

    def test_the_first_scene_of_a_role_may_not_clash(self):
        scenes = [(5, [0]), (1000, []), (5, [0]), (5, [1]), (5, [1])]
        self.assertEqual(pairs_of([10, 10], scenes), [1, 4, 0, 1, 2, 3])

    def test_the_higher_role_may_come_ahead(self):
        self.assertEqual(pairs_of([10, 0], [(5, [1]), (5, []), (5, [0]), (5, [0, 1])]), [1, 4, 0, 1, 2, 0])


class Order(unittest.TestCase):
    def test_by_the_lower_role_then_the_higher_one(self):
        # In the order of the scenes the pairs would come the other way round.
        scenes = [(5, [4, 5]), (5, [2, 5]), (5, [2, 3]), (5, [0, 5]), (5, [0, 1])]
        self.assertEqual(pairs_of([0] * 6, scenes), [
            5, 4, 0, 1, 4, 4, 4, 0, 5, 3, 3, 4, 2, 3, 2, 2, 4, 2, 5, 1, 1, 4, 4, 5, 0, 0,
        ])


class AsTheWordsSay(unittest.TestCase):
    def test_three_roles_in_four_scenes(self):
        casts = [[], [0], [1], [2], [0, 1], [1, 2]]
        for dressing in ([0, 3, 5], [4, 2, 0], [1, 1, 6]):
            for chosen in itertools.product(casts, repeat=4):
                scenes = list(zip([2, 3, 2, 1], chosen))
                self.assertEqual(pairs_of(dressing, scenes), pairs_by_the_words(dressing, scenes), (dressing, scenes))

    def test_six_roles_in_ten_scenes(self):
        for seed in range(300):
            dressing = [(seed * 7 + role * role * 5) % 13 for role in range(6)]
            scenes = []
            for number in range(10):
                sign = (seed * 2654435761 + number * 40503 + seed * number * 97) % 64
                sign &= (seed * 31 + number * 17) % 64
                scenes.append(((seed + number * number) % 6, [role for role in range(6) if sign >> role & 1]))
            self.assertEqual(pairs_of(dressing, scenes), pairs_by_the_words(dressing, scenes), (dressing, scenes))


class Asking(unittest.TestCase):
    def test_changes_nothing(self):
        told = ask(begins([5, 5]), scene(1, [0]), clashes(), clashes(), scene(1, [1]), clashes(), clashes())
        self.assertEqual(told[2:], [[0], [0], [1], [1, 4, 0, 1, 0, 1], [1, 4, 0, 1, 0, 1]])

    def test_players_change_nothing(self):
        told = ask(begins([5, 5]), scene(1, [0, 1]), player(1, [0, 0]), clashes())
        self.assertEqual(told[3], [1, 4, 0, 1, 0, 0])


if __name__ == "__main__":
    unittest.main()
