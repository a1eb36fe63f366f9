"""Who plays what: the right castings of a play, what they cost, and what is wrong with one.

Each of the calls answers the number that stands first and the lists behind it;
what is refused answers a number below 0 and no lists.
"""

CANT_PLAY = 1
ROLES_CLASH = 2


class Casting:
    """The players of the roles that are given out so far, role by role, and what that costs."""

    def __init__(self, players, cost):
        self.players = players
        self.cost = cost


def engaged(players):
    """Those who play something, rising."""
    return sorted(set(players))


def with_next(play, casting, number):
    """The casting with this player for the next role, too."""
    player = play.players[number]
    cost = casting.cost + player.fee_for(len(casting.players))
    if number not in casting.players:
        cost += player.wage
    return Casting(casting.players + [number], cost)


def fits_next(play, casting, number, clashing):
    """Whether a right casting stays right with this player for the next role, which clashes with these."""
    if not play.players[number].can_play(len(casting.players)):
        return False
    for lower in clashing:
        if casting.players[lower] == number:
            return False
    return True


def lower_clashing(play):
    """For each role, the lower ones that it clashes with."""
    clashing = [[] for role in play.dressing]
    for clash in play.clashes():
        clashing[clash[1]].append(clash[0])
    return clashing


def right_castings(play):
    """All right castings of a play, the earlier ones first."""
    castings = [Casting([], 0)]
    for clashing in lower_clashing(play):
        # Each is lengthened by the players as they rise: so the earlier ones stay first.
        longer = []
        for casting in castings:
            for number in range(len(play.players)):
                if fits_next(play, casting, number, clashing):
                    longer.append(with_next(play, casting, number))
        castings = longer
    return castings


def least_cost(castings):
    """What the cheapest of some castings costs."""
    return min([casting.cost for casting in castings])


def chosen(number, castings):
    """The number, then how many castings are chosen, and the first of them, as cheapest and fewest tell it."""
    first = castings[0]
    return number, [[len(castings), first.cost], first.players, engaged(first.players)]


def cheapest(play):
    """What the cheapest right casting costs, how many cost as little, and the earliest of them."""
    right = right_castings(play)
    if len(right) == 0:
        return -6, []
    least = least_cost(right)
    return chosen(least, [casting for casting in right if casting.cost == least])


def fewest(play):
    """How few are engaged in a right casting, how many castings have so few, and the earliest of them."""
    right = right_castings(play)
    if len(right) == 0:
        return -6, []
    least = min([len(set(casting.players)) for casting in right])
    return chosen(least, [casting for casting in right if len(set(casting.players)) == least])


def first_wrong(play, players):
    """What is wrong with a casting, first; None if it is right."""
    for role, number in enumerate(players):
        if not play.players[number].can_play(role):
            return [CANT_PLAY, role, number]
    for clash in play.clashes():
        if players[clash[0]] == players[clash[1]]:
            return [ROLES_CLASH, clash[0], clash[1]]
    return None


def check(play, players):
    """1, what it costs and those engaged, if a casting is right; else 0 and what is wrong with it."""
    if len(players) != len(play.dressing) or any([number >= len(play.players) for number in players]):
        return -1, []
    wrong = first_wrong(play, players)
    if wrong is not None:
        return 0, [wrong]
    casting = Casting([], 0)
    for number in players:
        casting = with_next(play, casting, number)
    return 1, [[casting.cost], engaged(players)]


def ill(play, absent):
    """How much more the cheapest right casting without a player costs, and the earliest of these."""
    if absent >= len(play.players):
        return -2, []
    right = right_castings(play)
    if len(right) == 0:
        return -6, []
    without = [casting for casting in right if absent not in casting.players]
    if len(without) == 0:
        return -3, []
    least = least_cost(without)
    as_cheap = [casting for casting in without if casting.cost == least]
    return least - least_cost(right), [as_cheap[0].players]
