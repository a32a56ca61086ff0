"""Tables that bend round fallen ties."""

from wormways.checks import NO_TIE, check_net, check_ties


def bent(net, fallen, root):
    """A table of ties of use only, by which no letter ever sticks, whatever lanes there are."""
    check_net(net)
    check_ties(net, fallen, root)
    usable = ties_of_use(net, fallen)
    far = all_far(net, usable, root)
    steps = all_steps(net, usable, far)
    rows = [[NO_TIE] * net[0] for house in range(net[0])]
    for goal in far:
        told = ties_to(net, steps, goal)
        for house in told:
            rows[house][goal] = told[house]
    return tuple([tuple(row) for row in rows])


def ties_of_use(net, fallen):
    """The numbers of all ties that stand, and beside which one stands that leads back, rising."""
    standing = {tie: number for number, tie in enumerate(net[1]) if number not in fallen}
    return [number for (begin, end), number in standing.items() if (end, begin) in standing]


def all_far(net, usable, root):
    """For each house that is come to from the root how many ties of use lead there at least."""
    far = {root: 0}
    reached = [root]
    at = 0
    while at < len(reached):
        house = reached[at]
        at += 1
        for tie in usable:
            begin, end = net[1][tie]
            if begin == house and end not in far:
                far[end] = far[house] + 1
                reached.append(end)
    return far


def all_steps(net, usable, far):
    """(house, ties that lead on from it) for each house's downs, then for each one's ups.

    So all houses to which a step's ties lead have had their turn: downs lead from the root, ups to it.
    """
    houses = sorted(far, key=lambda house: (far[house], house))
    ranks = {house: rank for rank, house in enumerate(houses)}
    downs = {house: [] for house in houses}
    ups = {house: [] for house in houses}
    for tie in usable:
        begin, end = net[1][tie]
        # Houses that aren't come to from the root have no rank, and no letter goes from there.
        if begin in ranks and ranks[end] < ranks[begin]:
            ups[begin].append(tie)
        elif begin in ranks:
            downs[begin].append(tie)
    return [(house, downs[house]) for house in reversed(houses)] + [(house, ups[house]) for house in houses]


def ties_to(net, steps, goal):
    """For each house from which a way leads to the goal, but the goal, its first tie."""
    left = {goal: 0}
    told = {}
    for house, ties in steps:
        tie = best_tie(net, ties, left)
        # A house from which downs lead there takes no up, even if fewer ties were left then.
        if house not in left and tie is not None:
            told[house] = tie
            left[house] = left[net[1][tie][1]] + 1
    return told


def best_tie(net, ties, left):
    """The least of the ties at whose end the fewest are left to the goal, or None if none leads there."""
    fit = [(left[net[1][tie][1]], tie) for tie in ties if net[1][tie][1] in left]
    if not fit:
        return None
    return min(fit)[1]
