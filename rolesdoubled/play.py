"""The interface: a list of calls on one play is read, and their answers are put into one list."""

from rolesdoubled.castings import cheapest, check, fewest, ill
from rolesdoubled.stage import Play

BEGINS = 0
SCENE = 1
PLAYER = 2
CLASHES = 3
CHEAPEST = 4
FEWEST = 5
CHECK = 6
ILL = 7


class UnknownCall(ValueError):
    """A call's number that stands for no call."""


class Reader:
    """Reads whole numbers and rows, one behind another, from a list that it leaves as it is."""

    def __init__(self, numbers):
        self.numbers = numbers
        self.place = 0

    def has_more(self):
        """Whether something is left to read."""
        return self.place < len(self.numbers)

    def read_number(self):
        """The number at the place reached."""
        number = self.numbers[self.place]
        self.place += 1
        return number

    def read_row(self):
        """The row at the place reached, which has ahead of it how many numbers it has."""
        length = self.read_number()
        row = self.numbers[self.place:self.place + length]
        self.place += length
        return row


def answers(calls):
    """The answers to a list of calls on one new play, each behind how many numbers it has."""
    play = Play()
    reader = Reader(calls)
    told = []
    while reader.has_more():
        first, rows = next_answer(play, reader)
        answer = joined(first, rows)
        told.append(len(answer))
        told.extend(answer)
    return told


def next_answer(play, reader):
    """Read one call and carry it out on the play; the number that it answers first, and the rows behind it."""
    call = reader.read_number()
    if call == BEGINS:
        return play.begin(reader.read_row()), []
    if call == SCENE:
        minutes = reader.read_number()
        return play.add_scene(minutes, reader.read_row()), []
    if call == PLAYER:
        wage = reader.read_number()
        return play.add_player(wage, reader.read_row()), []
    if call == CLASHES:
        pairs = play.clashes()
        return len(pairs), pairs
    if call == CHEAPEST:
        return cheapest(play)
    if call == FEWEST:
        return fewest(play)
    if call == CHECK:
        return check(play, reader.read_row())
    if call == ILL:
        return ill(play, reader.read_number())
    raise UnknownCall(f"no call has the number {call}")


def joined(first, rows):
    """The number that is answered first, then each row behind how many numbers it has."""
    numbers = [first]
    for row in rows:
        numbers.append(len(row))
        numbers.extend(row)
    return numbers
