"""[5] needs."""

import unittest

from tests import worlds
from wormways.orders import needs


class Needs(unittest.TestCase):
    def test_a_street(self):
        told = needs(worlds.STREET, worlds.STREET_TABLE, (0, 0, 0, 0))
        self.assertEqual(told, [((0, 0), (1, 0)), ((1, 0), (2, 0)), ((4, 0), (3, 0)), ((5, 0), (4, 0))])

    def test_each_need_once_though_several_letters_have_it(self):
        # Letters from 0 to 2 and to 3 go by ties 0 and 1 alike.
        told = needs(worlds.STREET, worlds.STREET_TABLE, (3, 3, 3, 3))
        self.assertEqual(told.count(((0, 3), (1, 3))), 1)
        self.assertEqual(len(told), 4)

    def test_lanes_of_several_numbers(self):
        told = needs(worlds.STREET, worlds.STREET_TABLE, (0, 1, 2, 3))
        self.assertEqual(told, [((0, 2), (1, 2)), ((0, 3), (1, 3)), ((1, 3), (2, 3)), ((4, 0), (3, 0)),
                                ((5, 0), (4, 0)), ((5, 1), (4, 1))])

    def test_they_rise_by_tie_and_then_by_number(self):
        told = needs(worlds.STREET, worlds.STREET_TABLE, (7, 6, 5, 4))
        self.assertEqual(told, [((0, 4), (1, 4)), ((0, 5), (1, 5)), ((1, 4), (2, 4)), ((4, 7), (3, 7)),
                                ((5, 6), (4, 6)), ((5, 7), (4, 7))])

    def test_one_held_lane_and_several_wanted_ones(self):
        # From 0 by 1 to each of 2, 3, 4.
        net = (5, ((0, 1), (1, 4), (1, 3), (1, 2)))
        table = ((-1, 0, 0, 0, 0), (-1, -1, 3, 2, 1), (-1,) * 5, (-1,) * 5, (-1,) * 5)
        self.assertEqual(needs(net, table, (0,) * 5), [((0, 0), (1, 0)), ((0, 0), (2, 0)), ((0, 0), (3, 0))])
        self.assertEqual(needs(net, table, (0, 1, 2, 3, 4)), [((0, 2), (3, 2)), ((0, 3), (2, 3)), ((0, 4), (1, 4))])

    def test_letters_of_one_tie_need_nothing(self):
        self.assertEqual(needs(worlds.PAIR, worlds.PAIR_TABLE, (0, 0)), [])
        net = (4, ((1, 0), (2, 0), (3, 0), (0, 1), (0, 2), (0, 3)))
        table = ((-1, 3, 4, 5), (0, -1, -1, -1), (1, -1, -1, -1), (2, -1, -1, -1))
        self.assertEqual(needs(net, table, (0, 0, 0, 0)), [])

    def test_goals_to_which_no_way_is_told(self):
        self.assertEqual(needs((8, ()), worlds.empty_table(8), (0,) * 8), [])
        self.assertEqual(needs(worlds.STREET, worlds.empty_table(4), (0, 0, 0, 0)), [])
        table = tuple((-1, -1, -1, row[3]) for row in worlds.STREET_TABLE)
        self.assertEqual(needs(worlds.STREET, table, (0, 0, 0, 5)), [((0, 5), (1, 5)), ((1, 5), (2, 5))])

    def test_a_ring(self):
        net, table = worlds.ring(3)
        self.assertEqual(needs(net, table, (0, 0, 0)), [((0, 0), (1, 0)), ((1, 0), (2, 0)), ((2, 0), (0, 0))])
        self.assertEqual(needs(net, table, (2, 1, 0)), [((0, 0), (1, 0)), ((1, 2), (2, 2)), ((2, 1), (0, 1))])

    def test_all_that_letters_hold_and_then_want_anywhere_on_their_ways(self):
        for net, table, lanes in worlds.worlds(51, 200):
            self.assertEqual(needs(net, table, lanes), worlds.slow_needs(net, table, lanes))
        for net, table in ((worlds.CROWDED, worlds.CROWDED_TABLE), (worlds.FULL, worlds.FULL_TABLE)):
            for lanes in ((0,) * 8, (7, 6, 5, 4, 3, 2, 1, 0), (1, 2, 1, 2, 1, 2, 1, 2)):
                self.assertEqual(needs(net, table, lanes), worlds.slow_needs(net, table, lanes))


if __name__ == "__main__":
    unittest.main()
