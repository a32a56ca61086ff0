"""Slow reference answers for goings, bent tables and texts, by the words of the document.

They use nothing of the package.
"""

import functools
import math
import re

from tests import worlds


class SlowGoing:
    """A going that follows each single piece."""

    def __init__(self, net, table, lanes, room):
        self.roads = worlds.ways(net, table, lanes)
        self.room = room
        self.road = []
        # Of each letter, each piece's place: -1 if it wasn't sent yet, else the number of the lane on its way.
        self.pieces = []
        self.holder = {}
        self.arrived = []
        self.hops = []

    def send(self, start, goal, many):
        self.road.append(self.roads[start, goal])
        self.pieces.append([-1] * many)
        self.hops.append(0)
        return len(self.road) - 1

    def wholly(self, number):
        return all(at == len(self.road[number]) for at in self.pieces[number])

    def asks(self, number):
        road = self.road[number]
        mine = [at for at, lane in enumerate(road) if self.holder.get(lane) == number]
        if self.wholly(number) or (mine and max(mine) == len(road) - 1):
            return None
        return road[max(mine) + 1] if mine else road[0]

    def give(self):
        asked = {}
        for number in range(len(self.road)):
            asked.setdefault(self.asks(number), []).append(number)
        for lane, numbers in asked.items():
            if lane is not None and lane not in self.holder:
                self.holder[lane] = min(numbers)

    def on(self, lane):
        number = self.holder[lane]
        return self.pieces[number].count(self.road[number].index(lane))

    def beat(self):
        before = set(number for number in range(len(self.road)) if self.wholly(number))
        self.give()
        moves = []
        for number, road in enumerate(self.road):
            for at in range(-1, len(road)):
                if at >= 0 and self.holder.get(road[at]) != number:
                    continue
                if at not in self.pieces[number]:
                    continue
                goal = at + 1 == len(road)
                if goal or (self.holder.get(road[at + 1]) == number and self.on(road[at + 1]) < self.room):
                    moves.append((number, self.pieces[number].index(at)))
        for number, piece in moves:
            self.pieces[number][piece] += 1
            self.hops[number] += 1
        for lane, number in list(self.holder.items()):
            if min(self.pieces[number]) > self.road[number].index(lane):
                del self.holder[lane]
        self.arrived += [number for number in range(len(self.road)) if self.wholly(number) and number not in before]
        return bool(moves)

    def held(self):
        return sorted((lane, number, self.on(lane)) for lane, number in self.holder.items())

    def come(self):
        return list(self.arrived)

    def is_over(self):
        return all(self.wholly(number) for number in range(len(self.road)))


def ties_of_use(net, fallen):
    standing = [tie for number, tie in enumerate(net[1]) if number not in fallen]
    return [number for number, (begin, end) in enumerate(net[1])
            if number not in fallen and (end, begin) in standing]


def all_far(net, fallen, root):
    """How far each house is that is come to from the root, ring by ring."""
    far = {root: 0}
    for step in range(1, net[0]):
        for number in ties_of_use(net, fallen):
            begin, end = net[1][number]
            if far.get(begin) == step - 1:
                far.setdefault(end, step)
    return far


def slow_bent(net, fallen, root):
    many, ties = net
    far = all_far(net, fallen, root)
    usable = ties_of_use(net, fallen)

    def leads_up(number):
        begin, end = ties[number]
        return (far[end], end) < (far[begin], begin)

    def ties_from(house, up):
        return [number for number in usable if ties[number][0] == house and leads_up(number) == up]

    @functools.cache
    def downs(house, goal):
        if house == goal:
            return 0
        return 1 + min([downs(ties[number][1], goal) for number in ties_from(house, False)], default=math.inf)

    @functools.cache
    def left(house, goal):
        if downs(house, goal) < math.inf:
            return downs(house, goal)
        return 1 + min(left(ties[number][1], goal) for number in ties_from(house, True))

    def told(house, goal):
        if house == goal or house not in far or goal not in far:
            return -1
        if downs(house, goal) < math.inf:
            return min(number for number in ties_from(house, False)
                       if downs(ties[number][1], goal) == downs(house, goal) - 1)
        return min(number for number in ties_from(house, True)
                   if left(ties[number][1], goal) == left(house, goal) - 1)

    return tuple(tuple(told(house, goal) for goal in range(many)) for house in range(many))


NUMBER = r"(0|[1-9][0-9]?)"
HOUSES, TIE, TO = f"houses {NUMBER}", f"tie {NUMBER} {NUMBER}", f"to( (-|{NUMBER}))*"


def wrong_row(text):
    """The number of the first row up to which no text of such rows begins, or None."""
    rows = text.split("\n")
    for at in range(len(rows)):
        begun = "\n".join(rows[:at + 1])
        if not re.fullmatch(f"{HOUSES}(\n{TIE})*(\n{TO})*", begun, re.ASCII):
            return at
    return None
