"""[6] order."""

import itertools
import unittest

from tests import worlds
from wormways.orders import needs, order


class Order(unittest.TestCase):
    def test_a_street(self):
        told = order(worlds.STREET, worlds.STREET_TABLE, (0, 0, 0, 0))
        # Ties 5, 4, 3 are held and wanted in this order.
        self.assertEqual(told, [(0, 0), (1, 0), (2, 0), (5, 0), (4, 0), (3, 0)])

    def test_a_lane_that_becomes_free_stands_ahead_of_greater_ones_that_were_free(self):
        # 2 goes to 0 by 1: tie 1, then tie 0; tie 2 needs nothing.
        net = (4, ((1, 0), (2, 1), (3, 0)))
        table = ((-1,) * 4, (0, -1, -1, -1), (1, 1, -1, -1), (2, -1, -1, -1))
        self.assertEqual(order(net, table, (0, 0, 0, 0)), [(1, 0), (0, 0), (2, 0)])
        self.assertEqual(order(net, table, (1, 0, 0, 0)), [(1, 0), (1, 1), (0, 1), (2, 1)])
        self.assertEqual(order(net, table, (0, 1, 0, 0)), [(1, 0), (0, 0), (1, 1), (2, 0)])

    def test_letters_of_one_tie_have_lanes_too(self):
        self.assertEqual(order(worlds.PAIR, worlds.PAIR_TABLE, (0, 0)), [(0, 0), (1, 0)])
        self.assertEqual(order(worlds.PAIR, worlds.PAIR_TABLE, (3, 5)), [(0, 5), (1, 3)])

    def test_lanes_that_no_letter_goes_by_are_not_told(self):
        table = tuple((row[0], -1, -1, -1) for row in worlds.STREET_TABLE)
        self.assertEqual(order(worlds.STREET, table, (6, 0, 0, 0)), [(5, 6), (4, 6), (3, 6)])

    def test_nothing_where_no_letter_can_go(self):
        self.assertEqual(order((2, ()), worlds.empty_table(2), (0, 0)), [])
        self.assertEqual(order(worlds.STREET, worlds.empty_table(4), (0, 1, 2, 3)), [])

    def test_none_where_there_is_a_knot(self):
        for many in range(3, 9):
            net, table = worlds.ring(many)
            self.assertIsNone(order(net, table, (0,) * many))
            self.assertIsNone(order(net, table, (7,) * many))
            self.assertIsNotNone(order(net, table, tuple(range(many))))

    def test_none_where_only_some_lanes_are_in_a_knot(self):
        # A ring of three and a pair beside it.
        net = (5, ((0, 1), (1, 2), (2, 0), (3, 4), (4, 3)))
        table = ((-1, 0, 0, -1, -1), (1, -1, 1, -1, -1), (2, 2, -1, -1, -1), (-1, -1, -1, -1, 3), (-1, -1, -1, 4, -1))
        self.assertIsNone(order(net, table, (0, 0, 0, 0, 0)))
        self.assertEqual(order(net, table, (0, 0, 1, 0, 0)), [(0, 1), (1, 0), (1, 1), (2, 0), (0, 0), (3, 0), (4, 0)])

    def test_the_first_of_all_lists_that_there_could_be(self):
        tried = 0
        for net, table, lanes in worlds.worlds(61, 400, sizes=(2, 3, 4), most=6):
            everything = worlds.slow_lanes(net, table, lanes)
            pairs = needs(net, table, lanes)
            if len(everything) > 6:
                continue
            fit = [list(told) for told in itertools.permutations(everything)
                   if all(told.index(held) < told.index(wanted) for held, wanted in pairs)]
            self.assertEqual(order(net, table, lanes), min(fit, default=None))
            tried += len(everything) > 3
        self.assertGreater(tried, 50)

    def test_the_least_free_lane_at_each_place(self):
        none = some = 0
        for net, table, lanes in worlds.worlds(62, 300):
            told = order(net, table, lanes)
            self.assertEqual(told, worlds.slow_order(net, table, lanes))
            none += told is None
            some += told is not None
        self.assertGreater(none, 30)
        self.assertGreater(some, 30)

    def test_eight_houses_with_24_ties(self):
        self.assertIsNone(order(worlds.FULL, worlds.FULL_TABLE, (0,) * 8))
        lanes = (0, 1, 2, 3, 4, 5, 6, 7)
        self.assertEqual(order(worlds.FULL, worlds.FULL_TABLE, lanes),
                         worlds.slow_order(worlds.FULL, worlds.FULL_TABLE, lanes))


if __name__ == "__main__":
    unittest.main()
