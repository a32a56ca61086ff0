"""[2] Nets, and BadNet by every function that is handed one."""

import random
import unittest

from tests import worlds
from tests.askings import handed_nets
from wormways.bending import bent
from wormways.errors import BadNet
from wormways.fewest import fewest
from wormways.going import Going
from wormways.notes import read, written
from wormways.orders import knot, needs, order, shows


class Nets(unittest.TestCase):
    def refused(self, net, table=((-1, -1), (-1, -1)), lanes=(0, 0), paper=(), room=1, fallen=(), root=0):
        for asking in handed_nets(net, table, lanes, paper, room, fallen, root):
            with self.assertRaises(BadNet) as caught:
                asking()
            self.assertIs(type(caught.exception), BadNet)

    def taken(self, net):
        """The net with a table that tells no way, and with one that tells some."""
        many, ties = net
        tables = [worlds.empty_table(many), worlds.random_table(random.Random(1), net), bent(net, [], many - 1)]
        for table in tables:
            lanes = tuple(range(many))
            told = order(net, table, lanes)
            self.assertEqual(told, worlds.slow_order(net, table, lanes))
            self.assertEqual(needs(net, table, lanes), worlds.slow_needs(net, table, lanes))
            self.assertIsNone(knot(net, table, lanes))
            self.assertIs(shows(net, table, lanes, told), True)
            self.assertEqual(len(fewest(net, table)), many)
            self.assertEqual(read(written(net, table)), (net, table))
            self.goes(net, table, lanes)
        self.assertEqual(bent(net, list(range(len(ties))), 0), worlds.empty_table(many))

    def goes(self, net, table, lanes):
        """One letter on each way that the table tells."""
        going = Going(net, table, lanes, 1)
        letters = sorted(worlds.ways(net, table, lanes))
        for start, goal in letters:
            going.send(start, goal, 1)
        while not going.is_over():
            self.assertIs(going.beat(), True)
        self.assertEqual(sorted(going.come()), list(range(len(letters))))

    def test_two_to_eight_houses(self):
        for many in range(2, 9):
            with self.subTest(many):
                self.taken((many, ()))
                self.taken(worlds.ring(many)[0])

    def test_one_house_and_nine(self):
        for many in (-1, 0, 1, 9, 10):
            with self.subTest(many):
                self.refused((many, ()), worlds.empty_table(max(many, 0)), (0,) * max(many, 0))
        self.refused((9, worlds.ring(9)[0][1]), worlds.ring(9)[1], (0,) * 9)

    def test_a_house_and_a_tie_that_the_last_number_tells(self):
        self.taken((8, ((7, 6), (6, 7))))
        self.taken((2, ((1, 0),)))

    def test_no_tie_and_24_and_25(self):
        every = worlds.pairs_of_houses(8)
        self.taken((8, ()))
        self.taken((8, tuple(every[:23])))
        self.taken((8, tuple(every[:24])))
        self.refused((8, tuple(every[:25])), worlds.empty_table(8), (0,) * 8)
        self.refused((8, tuple(every)), worlds.empty_table(8), (0,) * 8)

    def test_the_same_houses_joined_the_other_way_round(self):
        self.taken((2, ((0, 1), (1, 0))))
        self.taken((3, ((2, 1), (1, 2), (0, 2), (2, 0))))

    def test_a_tie_told_twice(self):
        self.refused((2, ((0, 1), (0, 1))))
        self.refused((3, ((0, 1), (1, 0), (2, 0), (1, 0))), worlds.empty_table(3), (0, 0, 0))
        every = tuple(worlds.pairs_of_houses(8)[:23])
        self.refused((8, (*every, every[0])), worlds.empty_table(8), (0,) * 8)
        self.refused((8, (*every, every[22])), worlds.empty_table(8), (0,) * 8)

    def test_all_other_tuples_numbers_and_truths(self):
        for at, net in enumerate(worlds.BAD_NETS):
            with self.subTest(at):
                self.refused(net)

    def test_a_bad_net_is_refused_ahead_of_all_else(self):
        good = ((-1, -1), (-1, -1))
        for net in worlds.BAD_NETS:
            for table in (good, 0, (), ((0, 5), (True, ()))):
                for lanes in ((0, 0), 0, (8, 8)):
                    self.refused(net, table, lanes, [(0, 8), 3], 10, [99, True], 8)


if __name__ == "__main__":
    unittest.main()
