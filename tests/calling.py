"""Builds calls in the form they are handed in, and takes the answers apart again."""

from rolesdoubled.play import answers

HIGHEST = 4294967295


def begins(minutes):
    return [0, len(minutes)] + minutes


def scene(minutes, roles):
    return [1, minutes, len(roles)] + roles


def player(wage, fees):
    return [2, wage, len(fees)] + fees


def clashes():
    return [3]


def cheapest():
    return [4]


def fewest():
    return [5]


def check(casting):
    return [6, len(casting)] + casting


def ill(number):
    return [7, number]


def ask(*calls):
    """The answer to each call, without how many numbers it has."""
    told = answers([number for call in calls for number in call])
    parts = []
    place = 0
    while place < len(told):
        length = told[place]
        parts.append(told[place + 1:place + 1 + length])
        assert len(parts[-1]) == length, "an answer is shorter than it says"
        place += 1 + length
    assert len(parts) == len(calls), "there is not one answer for each call"
    return parts


def last(*calls):
    """The answer to the last call."""
    return ask(*calls)[-1]
