"""Nets, tables and slow reference answers for the tests.

The reference answers follow the words of the document and use nothing of the package.
"""

import itertools
import random

# Two houses, joined both ways: the least net that has letters.
PAIR = (2, ((0, 1), (1, 0)))
PAIR_TABLE = ((-1, 0), (1, -1))

# Four houses on a street: ties 0 to 2 lead right, ties 3 to 5 left.
STREET = (4, ((0, 1), (1, 2), (2, 3), (1, 0), (2, 1), (3, 2)))
STREET_TABLE = ((-1, 0, 0, 0), (3, -1, 1, 1), (4, 4, -1, 2), (5, 5, 5, -1))

# Eight houses and 16 ties; any two goals' letters on one number leave a knot.
CROWDED = (8, ((2, 7), (7, 3), (3, 5), (5, 0), (0, 4), (4, 6), (6, 1), (1, 2), (5, 4), (3, 1), (2, 5), (0, 7), (7, 1),
               (6, 7), (7, 4), (0, 1)))
CROWDED_TABLE = ((-1, 4, 4, 11, 4, 4, 15, 4), (7, -1, 7, 7, 7, 7, 7, 7), (0, 10, -1, 10, 10, 10, 0, 10),
                 (2, 9, 2, -1, 9, 9, 9, 9), (5, 5, 5, 5, -1, 5, 5, 5), (3, 3, 8, 3, 3, -1, 3, 3),
                 (13, 13, 6, 6, 13, 13, -1, 13), (1, 1, 1, 1, 1, 1, 14, -1))

# Eight houses and 24 ties that need seven numbers.
FULL = (8, ((3, 6), (6, 0), (0, 1), (1, 5), (5, 2), (2, 7), (7, 4), (4, 3), (4, 5), (3, 4), (4, 0), (3, 5), (1, 6),
            (1, 0), (6, 3), (0, 7), (2, 4), (5, 0), (3, 2), (6, 7), (3, 1), (1, 2), (2, 3), (2, 5)))
FULL_TABLE = ((-1, 2, 2, 2, 2, 2, 2, 15), (12, -1, 12, 3, 3, 3, 3, 3), (22, 5, -1, 22, 22, 22, 5, 22),
              (20, 0, 0, -1, 0, 0, 0, 0), (8, 7, 8, 10, -1, 10, 7, 8), (4, 4, 4, 4, 4, -1, 4, 4),
              (1, 1, 19, 1, 19, 19, -1, 1), (6, 6, 6, 6, 6, 6, 6, -1))

BAD_NETS = (
    # No tuple of two.
    0, 2, True, False, (), (2,), ((),), (2, (), ()), (2, ((0, 1),), 0), ((2, ()),), ((), 2),
    # Other counts of houses, and no counts at all.
    (1, ()), (0, ()), (-2, ()), (9, ()), (9, ((0, 1),)), (10 ** 5000, ()),
    (True, ()), (False, ()), ((), ()), ((2,), ()), ((2, 2), ()),
    # No tuple of ties.
    (2, 0), (2, 1), (2, True), (2, False), (2, (0, 1)), (2, (1, 0)),
    # Ties that are none.
    (2, (0,)), (2, (True,)), (2, ((),)), (2, ((0,),)), (2, ((0, 1, 0),)), (2, ((0, 1), 1)), (2, ((0, 1), (1,))),
    (2, (((0, 1),),)), (2, ((0, (1,)),)), (2, (((0,), 1),)), (2, (((), 1),)), (2, ((0, ()),)),
    # Truths for houses.
    (2, ((0, True),)), (2, ((False, 1),)), (2, ((True, 0),)), (2, ((1, False),)), (2, ((False, True),)),
    # A tie from a house to itself.
    (2, ((0, 0),)), (2, ((1, 1),)), (3, ((0, 1), (1, 2), (2, 2))),
    # Ends that there aren't.
    (2, ((0, 2),)), (2, ((2, 0),)), (2, ((-1, 0),)), (2, ((0, -1),)), (8, ((7, 8),)), (8, ((8, 7),)),
    (3, ((0, 1), (3, 1))), (2, ((0, 1), (1, -2))),
    # A tie told twice, side by side and apart.
    (2, ((0, 1), (0, 1))), (3, ((0, 1), (1, 0), (0, 1))), (3, ((0, 1), (1, 2), (2, 0), (1, 2))),
)


def pairs_of_houses(many):
    return [(begin, end) for begin in range(many) for end in range(many) if begin != end]


def ring(many):
    """A net whose tie of each number leads on from the house of that number, and the table round it."""
    ties = tuple((house, (house + 1) % many) for house in range(many))
    table = tuple(tuple(-1 if house == goal else house for goal in range(many)) for house in range(many))
    return (many, ties), table


def empty_table(many):
    return ((-1,) * many,) * many


def put(table, house, goal, thing):
    """The table with another thing at one place."""
    rows = [list(row) for row in table]
    rows[house][goal] = thing
    return tuple(tuple(row) for row in rows)


def random_net(chance, many, count):
    return (many, tuple(chance.sample(pairs_of_houses(many), count)))


def ring_and_more(chance, many, count):
    """A net with a ring through all houses, in no order, and so many more ties."""
    houses = chance.sample(range(many), many)
    ties = list(zip(houses, houses[1:] + houses[:1]))
    rest = [pair for pair in pairs_of_houses(many) if pair not in ties]
    ties += chance.sample(rest, min(count, len(rest)))
    return many, tuple(chance.sample(ties, len(ties)))


def joined_net(chance, many, joined, single):
    """A net with so many pairs of ties both ways, and single ties beside them, as far as there can be."""
    pairs = [pair for pair in pairs_of_houses(many) if pair[0] < pair[1]]
    pairs = chance.sample(pairs, min(joined, len(pairs)))
    ties = pairs + [(end, begin) for begin, end in pairs]
    rest = [pair for pair in pairs_of_houses(many) if pair not in ties and pair[::-1] not in ties]
    ties += chance.sample(rest, min(single, len(rest), 24 - len(ties)))
    return many, tuple(chance.sample(ties, len(ties)))


def random_table(chance, net, deep=False, gaps=0.0):
    """A table whose ways to each goal grow from it, at random; some of the far ends are left out."""
    many, ties = net
    rows = [[-1] * many for house in range(many)]
    for goal in range(many):
        far = {goal: 0}
        while True:
            fit = [number for number, (begin, end) in enumerate(ties) if begin not in far and end in far]
            if not fit or chance.random() < gaps:
                break
            if deep:
                most = max(far[ties[number][1]] for number in fit)
                fit = [number for number in fit if far[ties[number][1]] == most]
            number = chance.choice(fit)
            begin, end = ties[number]
            rows[begin][goal] = number
            far[begin] = far[end] + 1
    return tuple(tuple(row) for row in rows)


def worlds(seed, count, sizes=(2, 3, 4, 5, 6, 7, 8), most=24):
    """So many nets, tables and lanes, the same for the same seed."""
    chance = random.Random(seed)
    for turn in range(count):
        many = chance.choice(sizes)
        net = random_net(chance, many, chance.randint(0, min(most, many * (many - 1))))
        table = random_table(chance, net, deep=turn % 2 == 1, gaps=chance.choice((0.0, 0.0, 0.2)))
        top = chance.choice((0, 0, 1, 7))
        yield net, table, tuple(chance.randint(0, top) for goal in range(many))


def way(net, table, start, goal):
    """All ties of a letter's way."""
    told = []
    at = start
    while at != goal:
        told.append(table[at][goal])
        at = net[1][told[-1]][1]
    return told


def ways(net, table, lanes):
    """All letters, rising, each with the lanes of its way."""
    many = net[0]
    return {(start, goal): [(tie, lanes[goal]) for tie in way(net, table, start, goal)]
            for start in range(many) for goal in range(many) if table[start][goal] != -1}


def slow_needs(net, table, lanes):
    """All lanes that are held while another one is wanted, anywhere on a way."""
    found = set()
    for road in ways(net, table, lanes).values():
        found.update(zip(road, road[1:]))
    return sorted(found)


def slow_lanes(net, table, lanes):
    return sorted({road[0] for road in ways(net, table, lanes).values()})


def slow_order(net, table, lanes):
    pairs = slow_needs(net, table, lanes)
    everything = slow_lanes(net, table, lanes)
    told = []
    while len(told) < len(everything):
        fit = [lane for lane in everything if lane not in told
               and all(held in told for held, wanted in pairs if wanted == lane)]
        if not fit:
            return None
        told.append(min(fit))
    return told


def slow_shows(net, table, lanes, paper):
    if not all(lane in paper for lane in slow_lanes(net, table, lanes)):
        return False
    return all(paper.index(held) < paper.index(wanted) for held, wanted in slow_needs(net, table, lanes))


def is_knot(net, table, lanes, letters):
    roads = ways(net, table, lanes)
    if not letters or not all(letter in roads and len(roads[letter]) > 1 for letter in letters):
        return False
    return all(roads[letter][1] == roads[after][0] for letter, after in zip(letters, letters[1:] + letters[:1]))


def slow_knot(net, table, lanes):
    """The first of the shortest knots: lists of letters are tried as they ascend, the short ones ahead."""
    roads = {letter: road for letter, road in ways(net, table, lanes).items() if len(road) > 1}
    if slow_order(net, table, lanes) is not None:
        return None
    count = 1
    while True:
        for told in chains(roads, [], count):
            if roads[told[-1]][1] == roads[told[0]][0]:
                return told
        count += 1


def chains(roads, told, count):
    if count == 0:
        yield told
        return
    for letter, road in roads.items():
        if not told or roads[told[-1]][1] == road[0]:
            yield from chains(roads, told + [letter], count - 1)


def slow_fewest(net, table):
    """The first tuple, of those with the fewest numbers, that leaves an order."""
    many = net[0]
    for count in range(1, many + 1):
        for lanes in itertools.product(range(count), repeat=many):
            if slow_order(net, table, lanes) is not None:
                return lanes
    return None
