"""A play as it stands: its roles, its scenes, its players, and which of its roles clash.

What can be refused answers a number below 0 then, the one that the document gives it,
and leaves all as it was.
"""

MOST_ROLES = 6
MOST_SCENES = 10
MOST_PLAYERS = 5
MOST_MINUTES = 1000
MOST_MONEY = 100000


class Scene:
    """How many minutes a scene is long, and the roles that are in it, rising."""

    def __init__(self, minutes, roles):
        self.minutes = minutes
        self.roles = roles


class Player:
    """A player's wage, and for each role 0 if they can't play it, else 1 more than the fee."""

    def __init__(self, wage, fees):
        self.wage = wage
        self.fees = fees

    def can_play(self, role):
        """Whether they can play a role."""
        return self.fees[role] > 0

    def fee_for(self, role):
        """The fee for a role that they can play."""
        return self.fees[role] - 1


class Play:
    """The minutes to dress, role by role, the scenes and the players."""

    def __init__(self):
        self.dressing = []
        self.scenes = []
        self.players = []

    def begin(self, dressing):
        """Make the play a new one with these roles; answer how many they are."""
        if not 1 <= len(dressing) <= MOST_ROLES or max(dressing) > MOST_MINUTES:
            return -1
        self.dressing = list(dressing)
        self.scenes = []
        self.players = []
        return len(dressing)

    def add_scene(self, minutes, roles):
        """Add a scene behind the others; answer its number."""
        if minutes > MOST_MINUTES or not rise_below(roles, len(self.dressing)):
            return -1
        if len(self.scenes) == MOST_SCENES:
            return -5
        self.scenes.append(Scene(minutes, list(roles)))
        return len(self.scenes) - 1

    def add_player(self, wage, fees):
        """Add a player behind the others; answer their number."""
        # A fee is handed in as 1 more than it is, so its bound is 1 higher, too.
        if wage > MOST_MONEY or max(fees, default=0) > MOST_MONEY + 1:
            return -1
        if len(fees) != len(self.dressing):
            return -1
        if len(self.players) == MOST_PLAYERS:
            return -5
        self.players.append(Player(wage, list(fees)))
        return len(self.players) - 1

    def scenes_with(self, role):
        """The numbers of the scenes that a role is in, rising."""
        return [number for number, scene in enumerate(self.scenes) if role in scene.roles]

    def minutes_between(self, early, late):
        """The minutes of the scenes that lie between two, together, without these two."""
        return sum([scene.minutes for scene in self.scenes[early + 1:late]])

    def clash_at(self, one, one_scene, other, other_scene):
        """Whether two roles clash at the one's scene and the other one's."""
        if one_scene == other_scene:
            return True
        if one_scene < other_scene:
            return self.minutes_between(one_scene, other_scene) < self.dressing[other]
        return self.minutes_between(other_scene, one_scene) < self.dressing[one]

    def first_clash(self, lower, higher):
        """Two roles and the first scenes at which they clash; None if they never do."""
        for lower_scene in self.scenes_with(lower):
            for higher_scene in self.scenes_with(higher):
                if self.clash_at(lower, lower_scene, higher, higher_scene):
                    return [lower, higher, lower_scene, higher_scene]
        return None

    def clashes(self):
        """The first clash of each pair of roles that has one, by the lower role, then the higher one."""
        found = []
        for lower in range(len(self.dressing)):
            for higher in range(lower + 1, len(self.dressing)):
                clash = self.first_clash(lower, higher)
                if clash is not None:
                    found.append(clash)
        return found


def rise_below(roles, bound):
    """Whether each role is higher than the one ahead of it, and all are below the bound."""
    least = 0
    for role in roles:
        if role < least or role >= bound:
            return False
        least = role + 1
    return True
