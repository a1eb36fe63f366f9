"""The interface: how calls are handed in, how the answers stand, and that nothing is changed or kept."""

import unittest

from calling import HIGHEST, ask, begins, cheapest, check, clashes, fewest, ill, last, player, scene
from rolesdoubled.play import UnknownCall, answers


class Watched(list):
    """A list that counts whatever would change it."""

    changes = 0

    def count_change(self, *given, **named):
        Watched.changes += 1

    append = extend = insert = pop = remove = clear = sort = reverse = count_change
    __setitem__ = __delitem__ = __iadd__ = __imul__ = count_change


CALLS = [
    0, 3, 10, 0, 4,
    1, 20, 2, 0, 1,
    1, 3, 0,
    1, 1000, 1, 2,
    2, 100, 3, 0, 1, 100001,
    3,
    1, 1001, 0,
    2, 1, 2, 1, 1,
    0, 0,
    3,
    4, 5, 7, 0, 7, 1,
    2, 30, 3, 6, 1, 0,
    2, 7, 3, 0, 6, 9,
    4,
    5,
    6, 3, 1, 2, 0,
    6, 3, 1, 0, 0,
    6, 3, 0, 1, 0,
    6, 2, 1, 0,
    7, 0, 7, 3,
    0, 1, 5,
    2, 4, 1, 1,
    2, 9, 1, 1,
    7, 0, 7, 1,
    4,
]
TOLD = [
    1, 3,
    1, 0,
    1, 1,
    1, 2,
    1, 0,
    16, 3, 4, 0, 1, 0, 0, 4, 0, 2, 0, 2, 4, 1, 2, 0, 2,
    1, -1,
    1, -1,
    1, -1,
    16, 3, 4, 0, 1, 0, 0, 4, 0, 2, 0, 2, 4, 1, 2, 0, 2,
    1, -6, 1, -6, 1, -6, 1, -2,
    1, 1,
    1, 2,
    12, 150, 2, 1, 150, 3, 1, 0, 2, 3, 0, 1, 2,
    12, 3, 2, 2, 150, 3, 1, 0, 2, 3, 0, 1, 2,
    7, 1, 1, 100147, 3, 0, 1, 2,
    5, 0, 3, 2, 1, 2,
    5, 0, 3, 1, 0, 0,
    1, -1,
    1, -3, 1, -2,
    1, 1,
    1, 0,
    1, 1,
    3, 5, 1, 1, 3, 0, 1, 0,
    8, 4, 2, 1, 4, 1, 0, 1, 0,
]


class Form(unittest.TestCase):
    def test_each_answer_behind_how_many_numbers_it_has(self):
        self.assertEqual(answers(CALLS), TOLD)

    def test_single_calls(self):
        self.assertEqual(answers([0, 2, 5, 5]), [1, 2])
        self.assertEqual(answers([0, 0]), [1, -1])
        self.assertEqual(answers([1, 7, 0]), [1, 0])
        self.assertEqual(answers([2, 7, 0]), [1, 0])
        self.assertEqual(answers([3]), [1, 0])
        self.assertEqual(answers([4]), [6, 0, 2, 1, 0, 0, 0])
        self.assertEqual(answers([5]), [6, 0, 2, 1, 0, 0, 0])
        self.assertEqual(answers([6, 0]), [4, 1, 1, 0, 0])
        self.assertEqual(answers([7, 0]), [1, -2])

    def test_pairs_stand_behind_how_many_they_are(self):
        self.assertEqual(answers([0, 2, 5, 5, 1, 9, 2, 0, 1, 3])[4:], [6, 1, 4, 0, 1, 0, 0])

    def test_plain_numbers_in_a_plain_list(self):
        told = answers(CALLS)
        self.assertIs(type(told), list)
        for number in told:
            self.assertIs(type(number), int)


class NoCall(unittest.TestCase):
    def test_a_number_that_stands_for_no_call(self):
        for number in (8, HIGHEST):
            with self.assertRaises(UnknownCall):
                answers([3, number])


class NothingKept(unittest.TestCase):
    def test_what_is_handed_in_is_the_same_afterwards(self):
        given = list(CALLS)
        told = answers(given)
        self.assertEqual(given, CALLS)
        self.assertIsNot(told, given)

    def test_what_is_handed_in_is_never_changed(self):
        Watched.changes = 0
        self.assertEqual(answers(Watched(CALLS)), TOLD)
        self.assertEqual(Watched.changes, 0)

    def test_a_second_time_is_as_the_first(self):
        self.assertEqual(answers(CALLS), TOLD)
        self.assertEqual(answers(CALLS), TOLD)
        self.assertEqual(answers([3]), [1, 0])
        self.assertEqual(answers([1, 1, 1, 0]), [1, -1])
        self.assertEqual(answers([1, 1, 0]), [1, 0])
        self.assertEqual(answers([2, 1, 0]), [1, 0])
        self.assertEqual(answers([4]), [6, 0, 2, 1, 0, 0, 0])
        self.assertEqual(answers([5]), [6, 0, 2, 1, 0, 0, 0])
        self.assertEqual(answers([6, 1, 0]), [1, -1])
        self.assertEqual(answers([7, 0]), [1, -2])

    def test_what_is_done_to_the_answers_stays_with_them(self):
        answers(CALLS).clear()
        self.assertEqual(answers(CALLS), TOLD)


class Bounds(unittest.TestCase):
    def test_the_highest_numbers(self):
        top = HIGHEST
        self.assertEqual(answers([0, 1, top]), [1, -1])
        self.assertEqual(answers([0, 20] + [top] * 20), [1, -1])
        self.assertEqual(answers([1, top, 0]), [1, -1])
        self.assertEqual(answers([1, 1, 1, top]), [1, -1])
        self.assertEqual(answers([1, top, 20] + [top] * 20), [1, -1])
        self.assertEqual(answers([2, top, 0]), [1, -1])
        self.assertEqual(answers([0, 1, 5, 2, 1, 1, top]), [1, 1, 1, -1])
        self.assertEqual(answers([2, top, 20] + [top] * 20), [1, -1])
        self.assertEqual(answers([6, 20] + [top] * 20), [1, -1])
        self.assertEqual(answers([0, 1, 5, 2, 1, 1, 1, 6, 1, top]), [1, 1, 1, 0, 1, -1])
        self.assertEqual(answers([7, top]), [1, -2])

    def test_forty_calls(self):
        self.assertEqual(answers([3] * 40), [1, 0] * 40)
        self.assertEqual(answers([0, 1, 5] * 40), [1, 1] * 40)
        filled = [0, 6, 1, 2, 3, 4, 5, 6] + [1, 5, 6, 0, 1, 2, 3, 4, 5] * 10
        told = answers(filled + [3] * 29)
        pairs = [15]
        for lower in range(6):
            for higher in range(lower + 1, 6):
                pairs += [4, lower, higher, 0, 0]
        start = [1, 6]
        for number in range(10):
            start += [1, number]
        self.assertEqual(told, start + ([76] + pairs) * 29)

    def test_as_many_as_there_can_be_of_all(self):
        # 6 roles, 10 scenes, 5 players and 24 of cheapest, fewest and ill, that look at the most castings.
        filled = begins([1000] * 6) + scene(1000, []) * 10 + player(100000, [100001] * 6) * 5
        alone = [6, 0, 0, 0, 0, 0, 0, 1, 0]
        due = [1, 6]
        for number in list(range(10)) + list(range(5)):
            due += [1, number]
        due += ([13, 700000, 2, 5, 700000] + alone + [13, 1, 2, 5, 700000] + alone + [8, 0] + alone[:7]) * 8
        self.assertEqual(answers(filled + [4, 5, 7, 1] * 8), due)


class NothingChanged(unittest.TestCase):
    """Whatever is asked of a play, also in vain, each call answers on as it did."""

    def same_answers(self, handed, asked):
        alone = [last(*handed, call) for call in asked]
        for one in asked:
            for other, due in zip(asked, alone):
                self.assertEqual(last(*handed, one, other), due)
        self.assertEqual(ask(*handed, *asked, *asked)[len(handed):], alone + alone)

    def test_by_what_is_asked(self):
        handed = [
            begins([5, 0, 5]), scene(4, [0, 1]), scene(6, [1]), scene(4, [2]),
            player(3, [2, 3, 1]), player(5, [1, 1, 0]), player(4, [1, 9, 9]),
        ]
        asked = [
            clashes(), cheapest(), fewest(), ill(0), ill(1), ill(2), ill(3),
            check([0, 1, 0]), check([2, 0, 0]), check([0, 0, 0]), check([0, 0, 1]), check([0, 0, 3]), check([]),
        ]
        self.same_answers(handed, asked)

    def test_by_what_is_asked_while_no_casting_is_right(self):
        handed = [begins([5, 0]), scene(4, [0, 1]), player(3, [2, 3])]
        self.same_answers(handed, [clashes(), cheapest(), fewest(), ill(0), ill(1), check([0, 0]), check([0])])

    def test_by_what_is_asked_while_there_are_no_roles(self):
        handed = [scene(4, []), player(3, [])]
        self.same_answers(handed, [clashes(), cheapest(), fewest(), ill(0), ill(1), check([]), check([0])])

    def test_by_what_is_refused(self):
        handed = [begins([5, 5]), scene(4, [0]), scene(4, [1]), player(3, [2, 3]), player(9, [1, 1])]
        wrongs = [
            begins([]), begins([1001]), scene(1001, [0, 1]), scene(5, [1, 0]), scene(5, [2]),
            player(100001, [1, 1]), player(0, [1]), player(0, [1, 100002]),
        ]
        due = [last(*handed, call) for call in (cheapest(), fewest(), ill(0), check([0, 1]), check([1, 1]))]
        for wrong in wrongs:
            told = ask(*handed, wrong, cheapest(), fewest(), ill(0), check([0, 1]), check([1, 1]))
            self.assertEqual(told[6:], due)

    def test_by_an_eleventh_scene_and_a_sixth_player(self):
        handed = [begins([0, 0])] + [scene(4, [0])] * 10 + [player(3, [2, 3])] * 5
        due = [last(*handed, call) for call in (cheapest(), fewest(), ill(0), check([0, 0]), ill(5))]
        told = ask(
            *handed, scene(4, [0, 1]), player(0, [1, 1]), cheapest(), fewest(), ill(0), check([0, 0]), ill(5),
        )
        self.assertEqual(told[16:], [[-5], [-5]] + due)

    def test_scenes_and_players_added_later_count(self):
        told = ask(
            begins([0, 0]), player(3, [1, 1]), cheapest(), scene(4, [0, 1]), cheapest(), player(4, [1, 1]), cheapest(),
            begins([0]), cheapest(), player(5, [1]), fewest(), check([0]), ill(0),
        )
        self.assertEqual(told[2::2], [
            [3, 2, 1, 3, 2, 0, 0, 1, 0], [-6], [7, 2, 2, 7, 2, 0, 1, 2, 0, 1], [-6], [1, 2, 1, 5, 1, 0, 1, 0], [-3],
        ])


if __name__ == "__main__":
    unittest.main()
