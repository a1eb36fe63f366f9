"""What cheapest, fewest, check and ill answer, read a second time from the document's words alone.

Dull on purpose: every casting there is is looked at, whole, one by one.
"""

import itertools
import random

from calling import begins, player, scene


class Told:
    """A play: minutes to dress, scenes (minutes, roles), players (wage, fees: None where they can't play)."""

    def __init__(self, dressing, scenes, players):
        self.dressing = dressing
        self.scenes = scenes
        self.players = players

    def calls(self):
        """The calls that hand in this play."""
        handed = [begins(self.dressing)] if self.dressing else []
        handed += [scene(minutes, roles) for minutes, roles in self.scenes]
        for wage, fees in self.players:
            handed.append(player(wage, [0 if fee is None else fee + 1 for fee in fees]))
        return handed

    def clash(self, one, other):
        for (early, (_, roles)), (late, (_, later_roles)) in itertools.product(enumerate(self.scenes), repeat=2):
            between = sum(minutes for minutes, _ in self.scenes[early + 1:late])
            for first, second in ((one, other), (other, one)):
                if first in roles and second in later_roles:
                    if early == late or (early < late and between < self.dressing[second]):
                        return True
        return False

    def wrong(self, casting):
        for role, number in enumerate(casting):
            if self.players[number][1][role] is None:
                return [1, role, number]
        for one, other in itertools.combinations(range(len(casting)), 2):
            if casting[one] == casting[other] and self.clash(one, other):
                return [2, one, other]
        return None

    def castings(self):
        """Every casting there is, the earlier ones first."""
        numbers = range(len(self.players))
        return [list(casting) for casting in itertools.product(numbers, repeat=len(self.dressing))]

    def right(self):
        return [casting for casting in self.castings() if self.wrong(casting) is None]

    def cost(self, casting):
        wages = sum(self.players[number][0] for number in set(casting))
        return wages + sum(self.players[number][1][role] for role, number in enumerate(casting))

    def cheapest(self):
        return self.best(self.cost)

    def fewest(self):
        return self.best(lambda casting: len(set(casting)))

    def best(self, measure):
        right = self.right()
        if not right:
            return [-6]
        least = min(measure(casting) for casting in right)
        best = [casting for casting in right if measure(casting) == least]
        return [least, 2, len(best), self.cost(best[0]), *row(best[0]), *row(sorted(set(best[0])))]

    def check(self, casting):
        if len(casting) != len(self.dressing) or any(number >= len(self.players) for number in casting):
            return [-1]
        wrong = self.wrong(casting)
        if wrong:
            return [0, 3] + wrong
        return [1, 1, self.cost(casting), *row(sorted(set(casting)))]

    def ill(self, absent):
        right = self.right()
        without = [casting for casting in right if absent not in casting]
        if absent >= len(self.players):
            return [-2]
        if not right:
            return [-6]
        if not without:
            return [-3]
        least_of_all = min(self.cost(casting) for casting in right)
        costs = [self.cost(casting) for casting in without]
        return [min(costs) - least_of_all, *row(without[costs.index(min(costs))])]


def row(numbers):
    return [len(numbers)] + numbers


def many_plays(count, most_roles, most_players):
    """Plays of all kinds, always the same ones; small numbers, so that many castings cost as little."""
    for seed in range(count):
        dice = random.Random(seed)
        roles = dice.randint(0, most_roles)
        crowd = dice.choice((0.1, 0.2, 0.4))
        skill = dice.choice((0.5, 0.8, 1))
        money = dice.choice((1, 3, 100000))
        scenes = []
        for _ in range(dice.randint(0, 10)):
            scenes.append((dice.randint(0, 6), [role for role in range(roles) if dice.random() < crowd]))
        players = []
        for _ in range(dice.choice((most_players, dice.randint(0, most_players)))):
            fees = [dice.randint(0, money) if dice.random() < skill else None for _ in range(roles)]
            players.append((dice.randint(0, money), fees))
        yield Told([dice.randint(0, 12) for _ in range(roles)], scenes, players)
