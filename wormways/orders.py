"""Needs, orders and knots: whether letters can ever stick."""

from wormways.checks import check_all, check_paper
from wormways.ways import all_letters, all_needs, first_lane, first_lanes, second_lane


def needs(net, table, lanes):
    """All (held, wanted), lanes that a letter holds and then wants, rising."""
    check_all(net, table, lanes)
    return all_needs(net, table, lanes)


def order(net, table, lanes):
    """The first lanes of all letters, each held one ahead of the wanted one, or None."""
    check_all(net, table, lanes)
    pairs = all_needs(net, table, lanes)
    left = first_lanes(table, lanes)
    told = []
    while left:
        wanted = {pair[1]: True for pair in pairs}
        free = [lane for lane in left if lane not in wanted]
        if not free:
            return None
        least = free[0]
        told.append(least)
        left.remove(least)
        pairs = [pair for pair in pairs if pair[0] != least]
    return told


def shows(net, table, lanes, paper):
    """Whether by a paper, a list of unlike lanes, no letter ever sticks."""
    check_all(net, table, lanes)
    check_paper(net, paper)
    places = {lane: at for at, lane in enumerate(paper)}
    for lane in first_lanes(table, lanes):
        if lane not in places:
            return False
    for held, wanted in all_needs(net, table, lanes):
        if places[held] > places[wanted]:
            return False
    return True


def knot(net, table, lanes):
    """The fewest letters, each of which wants what the next one holds, or None."""
    check_all(net, table, lanes)
    followers = all_followers(net, table, lanes)
    best = None
    for letter in all_letters(table):
        ring = ring_from(followers, letter)
        if ring is not None and (best is None or len(ring) < len(best)):
            best = ring
    return best


def all_followers(net, table, lanes):
    """For each letter the letters, rising, whose first lane is its second one."""
    beginning = {}
    for letter in all_letters(table):
        beginning.setdefault(first_lane(table, lanes, letter), []).append(letter)
    followers = {}
    for letter in all_letters(table):
        followers[letter] = beginning.get(second_lane(net, table, lanes, letter), [])
    return followers


def ring_from(followers, start):
    """The shortest ring of letters from start on, the first one as lists ascend, or None."""
    # As followers rise, paths of one length are found as lists ascend, so the first that closes is the one.
    paths = [[start]]
    seen = {start: True}
    at = 0
    while at < len(paths):
        path = paths[at]
        at += 1
        for letter in followers[path[-1]]:
            if letter == start:
                return path
            if letter not in seen:
                seen[letter] = True
                paths.append([*path, letter])
    return None
