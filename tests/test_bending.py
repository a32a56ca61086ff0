"""[14], [15] bent, and what holds of the tables that it tells."""

import itertools
import random
import unittest

from tests import slow, worlds
from wormways.bending import bent
from wormways.errors import BadTies
from wormways.notes import read, written
from wormways.orders import knot, order

# A ring of four, joined both ways: ties 0 to 3 lead on, ties 4 to 7 back.
RING = (4, ((0, 1), (1, 2), (2, 3), (3, 0), (1, 0), (2, 1), (3, 2), (0, 3)))


def both_ways(many, *pairs):
    """A net with ties both ways between these houses; each second one leads back."""
    return many, tuple(tie for begin, end in pairs for tie in ((begin, end), (end, begin)))


def joined_worlds(seed, count, sizes=(2, 3, 4, 5, 6, 7, 8)):
    """Nets, many of whose ties lead both ways, with fallen ties and a root."""
    chance = random.Random(seed)
    for turn in range(count):
        net = worlds.joined_net(chance, chance.choice(sizes), chance.randint(0, 12), chance.randint(0, 4))
        numbers = range(len(net[1]))
        fallen = chance.sample(numbers, min(len(numbers), chance.choice((0, 0, 1, 2, 3, 6))))
        yield net, fallen, chance.randrange(net[0])


class Bent(unittest.TestCase):
    def test_a_ring_from_each_root(self):
        # From 0 houses 1 and 3 are one far, house 2 two: the one up from 1 is tie 4, and from 1 to 3 leads no down.
        self.assertEqual(bent(RING, [], 0), ((-1, 0, 0, 7), (4, -1, 1, 4), (2, 5, -1, 2), (3, 3, 6, -1)))
        self.assertEqual(bent(RING, [], 2), ((-1, 0, 0, 7), (4, -1, 1, 1), (2, 5, -1, 2), (3, 6, 6, -1)))
        for root in range(4):
            self.assertEqual(bent(RING, [], root), slow.slow_bent(RING, [], root))

    def test_a_fallen_tie_takes_the_one_back_with_it(self):
        for fallen in ([0], [4], [0, 4], [4, 0], [0, 0], [4, 0, 4, 4]):
            # Left are 1 - 2 - 3 - 0.
            self.assertEqual(bent(RING, fallen, 0), ((-1, 7, 7, 7), (1, -1, 1, 1), (2, 5, -1, 2), (3, 6, 6, -1)))

    def test_all_ties_fallen(self):
        for root in range(4):
            self.assertEqual(bent(RING, list(range(8)), root), worlds.empty_table(4))
            self.assertEqual(bent(RING, [0, 1, 2, 3], root), worlds.empty_table(4))
            self.assertEqual(bent(RING, list(range(7, -1, -1)) * 2, root), worlds.empty_table(4))

    def test_no_tie_at_all(self):
        for many in range(2, 9):
            for root in range(many):
                self.assertEqual(bent((many, ()), [], root), worlds.empty_table(many))

    def test_ties_of_one_way_only_are_of_no_use(self):
        for many in range(3, 9):
            self.assertEqual(bent(worlds.ring(many)[0], [], 0), worlds.empty_table(many))
        # 0 - 1 both ways, and 1 to 2 and 2 to 0 one way only.
        net = (3, ((1, 2), (2, 0), (0, 1), (1, 0)))
        for root in (0, 1):
            self.assertEqual(bent(net, [], root), ((-1, 2, -1), (3, -1, -1), (-1, -1, -1)))
        self.assertEqual(bent(net, [], 2), worlds.empty_table(3))

    def test_houses_that_are_not_come_to_from_the_root(self):
        net = both_ways(5, (0, 1), (1, 2), (3, 4))
        left = ((-1, 0, 0, -1, -1), (1, -1, 2, -1, -1), (3, 3, -1, -1, -1), (-1,) * 5, (-1,) * 5)
        right = ((-1,) * 5, (-1,) * 5, (-1,) * 5, (-1, -1, -1, -1, 4), (-1, -1, -1, 5, -1))
        self.assertEqual([bent(net, [], root) for root in range(5)], [left, left, left, right, right])

    def test_downs_only_though_ups_were_fewer(self):
        # 1 to 4 are one far from 0, and joined in a row: from 1 three downs lead to 4, or an up and a down.
        net = both_ways(5, (0, 1), (0, 2), (0, 3), (0, 4), (1, 2), (2, 3), (3, 4))
        table = bent(net, [], 0)
        self.assertEqual(worlds.way(net, table, 1, 4), [8, 10, 12])
        # Back there is no way by downs only: an up to 0, then a down.
        self.assertEqual(worlds.way(net, table, 4, 1), [7, 0])
        self.assertEqual(worlds.way(net, table, 3, 1), [5, 0])
        self.assertEqual(worlds.way(net, table, 2, 1), [9])
        self.assertEqual(table, slow.slow_bent(net, [], 0))

    def test_of_several_ways_of_downs_the_one_with_the_fewest(self):
        # From 0 to 3 by 1 and 2, or by 4: both downs only. 4 has the greater number, and its tie the greater one.
        net = both_ways(5, (0, 1), (1, 2), (2, 3), (0, 4), (4, 3))
        self.assertEqual(worlds.way(net, bent(net, [], 0), 0, 3), [6, 8])
        self.assertEqual(worlds.way(net, bent(net, [6], 0), 0, 3), [0, 2, 4])

    def test_of_several_ups_the_one_with_the_fewest_ties_behind_it(self):
        # 5 goes up to 1 or to 2: from 2 two downs lead to 4, from 1 an up to 0 and three downs.
        net = both_ways(6, (5, 1), (5, 2), (0, 1), (0, 2), (2, 3), (3, 4))
        table = bent(net, [], 0)
        self.assertEqual(worlds.way(net, table, 5, 4), [2, 8, 10])
        self.assertEqual(worlds.way(net, table, 5, 0), [0, 5])
        self.assertEqual(worlds.way(net, table, 1, 4), [5, 6, 8, 10])
        self.assertEqual(table, slow.slow_bent(net, [], 0))

    def test_of_several_ties_that_do_so_the_least(self):
        # From 0 to 3 by 1 or by 2, and back likewise; the ties' numbers are told in all orders.
        pairs = [(0, 1), (0, 2), (1, 3), (2, 3)]
        for told in itertools.permutations(pairs):
            net = both_ways(4, *told)
            table = bent(net, [], 0)
            down = min(net[1].index((0, 1)), net[1].index((0, 2)))
            up = min(net[1].index((3, 1)), net[1].index((3, 2)))
            self.assertEqual((table[0][3], table[3][0]), (down, up))
            net = (4, tuple(reversed(net[1])))
            table = bent(net, [], 0)
            self.assertEqual(table, slow.slow_bent(net, [], 0))
            self.assertEqual(table[0][3], min(net[1].index((0, 1)), net[1].index((0, 2))))

    def test_of_houses_that_are_as_far_the_lesser_number_is_up(self):
        # 1 and 2 are both one far from 0: from 1 to 2 is down, from 2 to 1 is up, and 3 hangs on 2, 4 on 1.
        net = both_ways(5, (0, 1), (0, 2), (1, 2), (2, 3), (1, 4))
        table = bent(net, [], 0)
        self.assertEqual(worlds.way(net, table, 1, 3), [4, 6])
        self.assertEqual(worlds.way(net, table, 2, 4), [5, 8])
        # With root 4 house 1 is one far, 0 and 2 are two far: from 0 to 2 is down.
        table = bent(net, [], 4)
        self.assertEqual(worlds.way(net, table, 0, 3), [2, 6])
        self.assertEqual(worlds.way(net, table, 3, 0), [7, 3])

    def test_far_is_told_by_ties_of_use_only(self):
        # 0 to 3 is fallen: so 3 is far from 0, and 2, which is nearer, is up from it.
        net = both_ways(4, (0, 1), (1, 2), (2, 3), (0, 3))
        self.assertEqual(bent(net, [6], 0), slow.slow_bent(both_ways(4, (0, 1), (1, 2), (2, 3)), [], 0))
        self.assertEqual(worlds.way(net, bent(net, [7], 0), 3, 0), [5, 3, 1])

    def test_roots_of_every_number(self):
        net = (8, worlds.FULL[1][:20] + ((6, 1), (5, 1), (2, 5), (7, 2)))
        for root in range(8):
            for fallen in ([], [3], [0, 6, 12]):
                self.assertEqual(bent(net, fallen, root), slow.slow_bent(net, fallen, root))

    def test_at_random(self):
        told = set()
        for net, fallen, root in joined_worlds(151, 1500):
            table = bent(net, fallen, root)
            self.assertEqual(table, slow.slow_bent(net, fallen, root))
            told.add(table)
        self.assertGreater(len(told), 800)

    def test_as_few_ties_as_can_be_among_all_ways_that_there_are(self):
        for net, fallen, root in joined_worlds(152, 200, sizes=(3, 4, 5, 6)):
            table = bent(net, fallen, root)
            far = slow.all_far(net, fallen, root)
            for start, goal in itertools.permutations(range(net[0]), 2):
                fit = list(right_ways(net, slow.ties_of_use(net, fallen), far, start, goal)) if start in far else []
                if not fit:
                    self.assertEqual(table[start][goal], -1)
                    continue
                few = min(len(way) for way in fit)
                self.assertEqual(len(worlds.way(net, table, start, goal)), few)
                self.assertEqual(table[start][goal], min(way[0] for way in fit if len(way) == few))

    def test_the_kind_of_what_is_told(self):
        for net, fallen, root in joined_worlds(153, 30):
            table = bent(net, fallen, root)
            self.assertIs(type(table), tuple)
            for row in table:
                self.assertIs(type(row), tuple)
                self.assertEqual({type(tie) for tie in row}, {int})
            self.assertEqual(len(table), net[0])


def ways_of(net, usable, start, goal, seen=()):
    """All ways by ties of use from a house to another one that come to no house twice."""
    if start == goal:
        yield []
        return
    for tie in usable:
        begin, end = net[1][tie]
        if begin == start and end not in seen:
            for way in ways_of(net, usable, end, goal, (*seen, start)):
                yield [tie, *way]


def right_ways(net, usable, far, start, goal):
    """Those ways that take an up at each house from which no downs alone lead there, and then downs alone."""
    def is_up(tie):
        begin, end = net[1][tie]
        return (far[end], end) < (far[begin], begin)

    downs = {house for house in far for way in ways_of(net, usable, house, goal) if not any(map(is_up, way))}
    for way in ways_of(net, usable, start, goal):
        ups = [is_up(tie) for tie in way]
        if ups == sorted(ups, reverse=True) and ups == [net[1][tie][0] not in downs for tie in way]:
            yield way


class Promised(unittest.TestCase):
    def joined(self, net, fallen, root):
        """All houses that ties of use join to the root."""
        return sorted(slow.all_far(net, fallen, root))

    def test_all_houses_joined_to_the_root_have_ways_to_one_another_by_ties_of_use(self):
        for net, fallen, root in joined_worlds(154, 300):
            table = bent(net, fallen, root)
            houses = self.joined(net, fallen, root)
            usable = slow.ties_of_use(net, fallen)
            for start, goal in itertools.permutations(range(net[0]), 2):
                self.assertEqual(table[start][goal] != -1, start in houses and goal in houses)
            for start, goal in itertools.permutations(houses, 2):
                self.assertLessEqual(set(worlds.way(net, table, start, goal)), set(usable))

    def test_there_is_an_order_whatever_lanes_there_are(self):
        chance = random.Random(155)
        for net, fallen, root in joined_worlds(156, 200):
            table = bent(net, fallen, root)
            many = net[0]
            for lanes in ((0,) * many, (7,) * many, tuple(chance.randint(0, 1) for goal in range(many)),
                          tuple(chance.randint(0, 7) for goal in range(many))):
                self.assertIsNotNone(order(net, table, lanes))
                self.assertIsNone(knot(net, table, lanes))

    def test_rings_of_all_sizes_leave_no_knot(self):
        for many in range(3, 9):
            net = both_ways(many, *[(house, (house + 1) % many) for house in range(many)])
            for root in range(many):
                table = bent(net, [], root)
                self.assertEqual([row.count(-1) for row in table], [1] * many)
                self.assertIsNotNone(order(net, table, (0,) * many))

    def test_what_is_told_is_a_table(self):
        for net, fallen, root in joined_worlds(157, 200):
            table = bent(net, fallen, root)
            self.assertEqual(read(written(net, table)), (net, table))


class Ties(unittest.TestCase):
    def refused(self, fallen, root, net=RING):
        with self.assertRaises(BadTies) as caught:
            bent(net, fallen, root)
        self.assertIs(type(caught.exception), BadTies)

    def test_ties_from_0_to_the_last_one(self):
        for tie in range(8):
            self.assertEqual(bent(RING, [tie], 0), slow.slow_bent(RING, [tie], 0))

    def test_ties_that_there_are_not(self):
        for tie in (-1, 8, 9, -8, 24, 99, 10 ** 5000, -10 ** 5000):
            for fallen in ([tie], [0, tie], [tie, 7], [tie, tie], [*range(8), tie]):
                self.refused(fallen, 0)
        self.refused([0], 0, (2, ()))
        self.refused([2], 0, worlds.PAIR)

    def test_truths_and_other_kinds_in_a_ties_place(self):
        for tie in (True, False, (), (0,), (0, 1), [], [0], "0", None):
            for fallen in ([tie], [0, tie], [tie, 1], [1, 0, tie]):
                self.refused(fallen, 0)

    def test_no_list_of_ties(self):
        for fallen in ((), (0,), 0, 1, True, False, None, "", "0", {}, {0: 1}):
            self.refused(fallen, 0)

    def test_roots_that_there_are_not(self):
        for root in (-1, 4, 5, -4, 8, 99, 10 ** 5000, -10 ** 5000, True, False, (), (0,), [], [0], "0", None):
            self.refused([], root)
            self.refused([0, 4], root)
            self.refused([8], root)
        for many in range(2, 9):
            self.refused([], many, (many, ()))


if __name__ == "__main__":
    unittest.main()
