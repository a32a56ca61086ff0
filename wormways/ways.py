"""The letters of a table, the lanes they go by, and what they need.

All that is handed in here has been checked before.
"""

from wormways.checks import NO_TIE


def all_letters(table):
    """All letters (start, goal) to which the table tells a way, rising."""
    letters = []
    for start, row in enumerate(table):
        for goal, tie in enumerate(row):
            if tie != NO_TIE:
                letters.append((start, goal))
    return letters


def first_lane(table, lanes, letter):
    """The first lane of a letter's way."""
    start, goal = letter
    return (table[start][goal], lanes[goal])


def second_lane(net, table, lanes, letter):
    """The second lane of a letter's way, or None where the way has one tie only."""
    start, goal = letter
    house = net[1][table[start][goal]][1]
    if house == goal:
        return None
    return (table[house][goal], lanes[goal])


def way_lanes(net, table, lanes, letter):
    """All lanes of a letter's way, from its start on."""
    house, goal = letter
    told = []
    while house != goal:
        tie = table[house][goal]
        told.append((tie, lanes[goal]))
        house = net[1][tie][1]
    return told


def first_lanes(table, lanes):
    """All lanes that are the first one of some letter, rising."""
    return sorted({first_lane(table, lanes, letter) for letter in all_letters(table)})


def all_needs(net, table, lanes):
    """All (held, wanted) of the letters, rising, each once."""
    found = []
    for letter in all_letters(table):
        wanted = second_lane(net, table, lanes, letter)
        if wanted is not None:
            found.append((first_lane(table, lanes, letter), wanted))
    return sorted(set(found))
