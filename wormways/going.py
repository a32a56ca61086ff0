"""The whole going of letters, beat by beat."""

from wormways.checks import NO_TIE, check_all, is_number
from wormways.errors import BadLetter, BadRoom
from wormways.letters import Letter
from wormways.ways import way_lanes

MOST_ROOM = 9
MOST_PIECES = 99
MOST_LETTERS = 60


class Going:
    """Letters that go by the lanes of a table; each lane has room for so many pieces."""

    def __init__(self, net, table, lanes, room):
        check_all(net, table, lanes)
        if not is_number(room, 1, MOST_ROOM):
            raise BadRoom("a lane has room for 1 to 9 pieces")
        self.net = net
        self.table = table
        self.lanes = lanes
        self.room = room
        self.letters = []
        self.ended = []

    def send(self, start, goal, many):
        """A letter of so many pieces more; tells its number."""
        if not has_way(self.net, self.table, start, goal):
            raise BadLetter("a letter goes from a house to one to which a way is told")
        if not is_number(many, 1, MOST_PIECES):
            raise BadLetter("a letter has 1 to 99 pieces")
        if len(self.letters) == MOST_LETTERS:
            raise BadLetter("no more than sixty letters are sent")
        self.letters.append(Letter(way_lanes(self.net, self.table, self.lanes, (start, goal)), many))
        return len(self.letters) - 1

    def beat(self):
        """Do one beat; tells whether a piece went on."""
        give_lanes(self.letters)
        gone = False
        for number, letter in enumerate(self.letters):
            # A letter that wholly came has no piece that could go on.
            if letter.hand_on(self.room):
                gone = True
                if letter.has_come():
                    self.ended.append(number)
            letter.let_go()
        return gone

    def held(self):
        """(lane, letter, pieces) of all lanes that are held, rising."""
        told = []
        for number, letter in enumerate(self.letters):
            for lane, pieces in letter.holds():
                told.append((lane, number, pieces))
        return sorted(told)

    def come(self):
        """The letters that wholly came, as they did, of one beat by their numbers."""
        return list(self.ended)

    def is_over(self):
        """Whether all letters wholly came."""
        return len(self.ended) == len(self.letters)


def has_way(net, table, start, goal):
    """Whether these are houses, and the table tells a way from the one to the other."""
    last = net[0] - 1
    if not is_number(start, 0, last) or not is_number(goal, 0, last):
        return False
    return table[start][goal] != NO_TIE


def give_lanes(letters):
    """Give each lane that no letter holds to the letter of the least number that asks for it."""
    taken = {}
    for letter in letters:
        for lane, pieces in letter.holds():
            taken[lane] = True
    for letter in letters:
        lane = letter.asks()
        if lane is not None and lane not in taken:
            taken[lane] = True
            letter.take()
