"""A letter under way: the lanes that it holds, and where its pieces are."""


class Letter:
    """A letter of some pieces that goes by the lanes of its way.

    Its places are numbered: 0 is ahead of the first lane, each lane has the next number, the last one is the goal.
    """

    def __init__(self, way, many):
        self.way = way
        self.pieces = [many] + [0] * (len(way) + 1)
        # It holds the lanes behind place `passed` up to place `foremost`.
        self.passed = 0
        self.foremost = 0

    def asks(self):
        """The lane that it asks for, or None."""
        if self.foremost == len(self.way):
            return None
        return self.way[self.foremost]

    def take(self):
        """Hold the lane that it asks for, too."""
        self.foremost += 1

    def holds(self):
        """(lane, pieces) of all lanes that it holds."""
        return [(self.way[at - 1], self.pieces[at]) for at in range(self.passed + 1, self.foremost + 1)]

    def hand_on(self, room):
        """Hand a piece on from each place from which one can go; tells whether one went."""
        # All go at once: a lane that is full has no room, though it hands a piece on, too.
        stood = list(self.pieces)
        gone = False
        for at in range(len(self.way) + 1):
            if stood[at] > 0 and self.takes(at + 1, stood[at + 1], room):
                self.pieces[at] -= 1
                self.pieces[at + 1] += 1
                gone = True
        return gone

    def takes(self, at, many, room):
        """Whether a place at which so many pieces are takes one more."""
        if at > len(self.way):
            return True
        return at <= self.foremost and many < room

    def let_go(self):
        """Hold no lane any more that all pieces have passed."""
        while self.passed < self.foremost and sum(self.pieces[:self.passed + 2]) == 0:
            self.passed += 1

    def has_come(self):
        """Whether all of its pieces came to the goal."""
        return sum(self.pieces[:-1]) == 0
