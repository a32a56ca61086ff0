"""Refusing nets, tables, lanes, papers and fallen ties that are none."""

from wormways.errors import BadLanes, BadNet, BadPaper, BadTable, BadTies

LEAST_HOUSES = 2
MOST_HOUSES = 8
MOST_TIES = 24
LAST_NUMBER = 7
NO_TIE = -1


def is_number(thing, low, high):
    """Whether the thing is a whole number from low to high."""
    # Python counts True and False among the integers, the document does not.
    return isinstance(thing, int) and not isinstance(thing, bool) and low <= thing <= high


def is_row(thing, many):
    """Whether the thing is a tuple of so many."""
    return isinstance(thing, tuple) and len(thing) == many


def is_tie(thing, many):
    """Whether the thing is a tie in a net of so many houses."""
    if not is_row(thing, 2):
        return False
    begin, end = thing
    return is_number(begin, 0, many - 1) and is_number(end, 0, many - 1) and begin != end


def check_net(net):
    """Refuse, by BadNet, what is no net."""
    if not is_row(net, 2):
        raise BadNet("a net is a tuple of a number of houses and ties")
    many, ties = net
    if not is_number(many, LEAST_HOUSES, MOST_HOUSES):
        raise BadNet("a net has 2 to 8 houses")
    if not isinstance(ties, tuple) or len(ties) > MOST_TIES:
        raise BadNet("ties are a tuple of at most 24")
    seen = {}
    for tie in ties:
        if not is_tie(tie, many):
            raise BadNet("a tie leads from a house to another one")
        if tie in seen:
            raise BadNet("no tie is told twice")
        seen[tie] = True


def may_stand(net, house, goal, thing):
    """Whether the thing may stand in a table at a house for a goal."""
    ties = net[1]
    if not is_number(thing, NO_TIE, len(ties) - 1):
        return False
    return thing == NO_TIE or (house != goal and ties[thing][0] == house)


def check_house(net, house, row):
    """Refuse, by BadTable, a house's row of a table in which no such numbers stand."""
    if not is_row(row, net[0]):
        raise BadTable((house, 0))
    for goal, thing in enumerate(row):
        if not may_stand(net, house, goal, thing):
            raise BadTable((house, goal))


def comes(net, table, house, goal):
    """Whether the way that the table tells from a house comes to the goal."""
    at = house
    # A way that has as many ties as there are houses runs in a ring.
    left = net[0]
    while table[at][goal] != NO_TIE and left > 0:
        at = net[1][table[at][goal]][1]
        left -= 1
    return at == goal


def check_table(net, table):
    """Refuse, by BadTable, what is no table for a net."""
    if not is_row(table, net[0]):
        raise BadTable((0, 0))
    for house, row in enumerate(table):
        check_house(net, house, row)
    # A wrong number anywhere is told ahead of a way that doesn't come to its goal.
    for house, row in enumerate(table):
        for goal, tie in enumerate(row):
            if tie != NO_TIE and not comes(net, table, house, goal):
                raise BadTable((house, goal))


def check_lanes(net, lanes):
    """Refuse, by BadLanes, what are no lanes for a net."""
    if not is_row(lanes, net[0]):
        raise BadLanes("lanes are a tuple with a number for each goal")
    for number in lanes:
        if not is_number(number, 0, LAST_NUMBER):
            raise BadLanes("a lane's number is from 0 to 7")


def is_lane(net, thing):
    """Whether the thing is a lane of a tie that the net has."""
    if not is_row(thing, 2):
        return False
    tie, number = thing
    return is_number(tie, 0, len(net[1]) - 1) and is_number(number, 0, LAST_NUMBER)


def check_paper(net, paper):
    """Refuse, by BadPaper, what is no list of unlike lanes."""
    if not isinstance(paper, list):
        raise BadPaper("a paper is a list")
    seen = {}
    for lane in paper:
        if not is_lane(net, lane):
            raise BadPaper("in a paper stand lanes of ties that there are")
        if lane in seen:
            raise BadPaper("no lane stands in a paper twice")
        seen[lane] = True


def check_ties(net, fallen, root):
    """Refuse, by BadTies, what is no list of the net's ties, and a root that is no house of it."""
    if not isinstance(fallen, list):
        raise BadTies("fallen ties are told in a list")
    for tie in fallen:
        if not is_number(tie, 0, len(net[1]) - 1):
            raise BadTies("ties that fall are ties that there are")
    if not is_number(root, 0, net[0] - 1):
        raise BadTies("a root is a house that there is")


def check_all(net, table, lanes):
    """Refuse a net, a table and lanes in the order in which they are handed in."""
    check_net(net)
    check_table(net, table)
    check_lanes(net, lanes)
