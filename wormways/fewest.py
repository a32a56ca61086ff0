"""The fewest lanes that leave no knot."""

from wormways.checks import check_net, check_table
from wormways.ways import all_needs


def fewest(net, table):
    """Lanes of the fewest numbers by which there is an order, the first of several."""
    check_net(net)
    check_table(net, table)
    many = net[0]
    sound = sound_sets(net, table)
    limit = 1
    told = numbered(sound, many, [0], ())
    # Ends at the latest where each goal has a number of its own.
    while told is None:
        limit += 1
        told = numbered(sound, many, [0] * limit, ())
    return told


def sound_sets(net, table):
    """For each set of goals, as bits, whether they leave no ring on one number."""
    many = net[0]
    # With a number of its own for each goal, a need's number tells its goal.
    pairs = all_needs(net, table, tuple(range(many)))
    return [not has_ring(ties_of(pairs, goals)) for goals in range(1 << many)]


def ties_of(pairs, goals):
    """The ties (held, wanted) of those needs whose number is among the goals, as bits."""
    return [(held[0], wanted[0]) for held, wanted in pairs if goals >> held[1] & 1]


def has_ring(pairs):
    """Whether pairs (held, wanted) lead from some tie back to it."""
    left = pairs
    while left:
        wanted = {pair[1]: True for pair in left}
        kept = [pair for pair in left if pair[0] in wanted]
        if len(kept) == len(left):
            return True
        left = kept
    return False


def numbered(sound, many, sets, numbers):
    """The first numbers of many goals that begin as told and leave no ring, or None.

    For each number that there may be, sets tells the goals that have it so far.
    """
    goal = len(numbers)
    if goal == many:
        return numbers
    for number, goals in enumerate(sets):
        joined = goals | (1 << goal)
        if sound[joined]:
            more = list(sets)
            more[number] = joined
            told = numbered(sound, many, more, (*numbers, number))
            if told is not None:
                return told
        # Where no goal has this number yet, all that is behind it would do no better.
        if goals == 0:
            return None
    return None
