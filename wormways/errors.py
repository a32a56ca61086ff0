"""What the functions of the package refuse with."""


class WormError(ValueError):
    """Any refusal."""


class BadNet(WormError):
    """A net that is none."""


class BadTable(WormError):
    """A table that is none for its net; place is the (house, goal) at which it is wrong."""

    def __init__(self, place):
        WormError.__init__(self, f"the table is wrong at (house, goal) {place}")
        self.place = place


class BadLanes(WormError):
    """Lanes that are none for their net."""


class BadPaper(WormError):
    """A paper that is no list of unlike lanes."""


class BadLetter(WormError):
    """A letter that can't be sent."""


class BadRoom(WormError):
    """A room that no lane can have."""


class BadTies(WormError):
    """Fallen ties, or a root, that the net doesn't have."""


class BadText(WormError):
    """A text that is none; row is the number of the first row that is wrong."""

    def __init__(self, row):
        WormError.__init__(self, f"the text is wrong in row {row}")
        self.row = row
