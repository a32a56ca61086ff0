"""[8] knot."""

import unittest

from tests import worlds
from wormways.orders import knot, order


class Knot(unittest.TestCase):
    def test_a_ring_is_told_from_its_least_letter_on(self):
        net, table = worlds.ring(3)
        self.assertEqual(knot(net, table, (0, 0, 0)), [(0, 2), (1, 0), (2, 1)])
        # The ties the other way round, so that the ring runs by falling houses.
        net = (3, ((0, 2), (2, 1), (1, 0)))
        table = ((-1, 0, 0), (2, -1, 2), (1, 1, -1))
        self.assertEqual(knot(net, table, (5, 5, 5)), [(0, 1), (2, 0), (1, 2)])

    def test_of_several_letters_with_the_same_lanes_the_least_is_told(self):
        net, table = worlds.ring(4)
        # From 0 by 1 and 2 go the letters to 2 and to 3.
        self.assertEqual(knot(net, table, (0, 0, 0, 0)), [(0, 2), (1, 0), (2, 0), (3, 1)])
        net, table = worlds.ring(5)
        self.assertEqual(knot(net, table, (0,) * 5), [(0, 2), (1, 0), (2, 0), (3, 0), (4, 1)])

    def test_only_letters_of_two_ties_and_more_want_a_lane(self):
        # Between neighbours that are joined both ways no letter wants what the other one holds.
        self.assertIsNone(knot(worlds.PAIR, worlds.PAIR_TABLE, (0, 0)))
        net = (3, ((0, 1), (1, 2), (2, 0), (1, 0), (2, 1), (0, 2)))
        self.assertIsNone(knot(net, ((-1, 0, 5), (3, -1, 1), (2, 4, -1)), (0, 0, 0)))

    def test_none_where_there_is_an_order(self):
        self.assertIsNone(knot(worlds.STREET, worlds.STREET_TABLE, (0, 0, 0, 0)))
        self.assertIsNone(knot(worlds.STREET, worlds.empty_table(4), (0, 0, 0, 0)))
        self.assertIsNone(knot((2, ()), worlds.empty_table(2), (0, 0)))
        self.assertIsNone(knot(worlds.CROWDED, worlds.CROWDED_TABLE, (0, 1, 2, 3, 4, 5, 6, 7)))
        net, table = worlds.ring(3)
        self.assertIsNone(knot(net, table, (0, 0, 1)))
        self.assertIsNone(knot(net, table, (2, 1, 0)))

    def test_of_knots_of_several_lengths_the_shortest(self):
        # A ring of four at 0 to 3 and a ring of three at 4 to 6, with greater letters.
        net = (7, ((0, 1), (1, 2), (2, 3), (3, 0), (4, 5), (5, 6), (6, 4)))
        rows = [[-1] * 7 for house in range(7)]
        for house in range(7):
            for goal in range(4) if house < 4 else range(4, 7):
                if house != goal:
                    rows[house][goal] = house
        table = tuple(tuple(row) for row in rows)
        self.assertEqual(knot(net, table, (0,) * 7), [(4, 6), (5, 4), (6, 5)])
        self.assertEqual(knot(net, table, (0,) * 4 + (1, 2, 3)), [(0, 2), (1, 0), (2, 0), (3, 1)])
        self.assertEqual(knot(net, table, (0, 0, 1, 1, 2, 2, 2)), [(4, 6), (5, 4), (6, 5)])
        self.assertIsNone(knot(net, table, (0, 0, 1, 1, 2, 2, 3)))

    def test_of_several_of_one_length_the_first(self):
        # Two rings of three; the ties of the ring with the lesser letters have the greater numbers.
        net = (6, ((3, 4), (4, 5), (5, 3), (0, 1), (1, 2), (2, 0)))
        table = ((-1, 3, 3, -1, -1, -1), (4, -1, 4, -1, -1, -1), (5, 5, -1, -1, -1, -1),
                 (-1, -1, -1, -1, 0, 0), (-1, -1, -1, 1, -1, 1), (-1, -1, -1, 2, 2, -1))
        self.assertEqual(knot(net, table, (0,) * 6), [(0, 2), (1, 0), (2, 1)])
        self.assertEqual(knot(net, table, (0, 1, 2, 3, 3, 3)), [(3, 5), (4, 3), (5, 4)])

    def test_a_ring_by_which_a_lesser_letter_only_comes_is_not_told_from_there(self):
        # 0 leads to the ring of 1, 2, 3, but isn't in it.
        net = (4, ((0, 1), (1, 2), (2, 3), (3, 1)))
        table = ((-1, 0, 0, 0), (-1, -1, 1, 1), (-1, 2, -1, 2), (-1, 3, 3, -1))
        self.assertEqual(knot(net, table, (0, 0, 0, 0)), [(1, 3), (2, 1), (3, 2)])

    def test_lanes_of_several_numbers(self):
        net, table = worlds.ring(5)
        # Goals 0 and 2 share a number, and leave a knot; goals 0 and 1 do not.
        told = knot(net, table, (0, 1, 0, 2, 3))
        self.assertEqual(told, worlds.slow_knot(net, table, (0, 1, 0, 2, 3)))
        self.assertEqual({goal for start, goal in told}, {0, 2})
        self.assertIsNone(knot(net, table, (0, 0, 1, 1, 2)))

    def test_at_random(self):
        lengths = set()
        for net, table, lanes in worlds.worlds(81, 500):
            told = knot(net, table, lanes)
            self.assertEqual(told, worlds.slow_knot(net, table, lanes))
            self.assertEqual(told is None, order(net, table, lanes) is not None)
            if told is not None:
                self.assertTrue(worlds.is_knot(net, table, lanes, told))
                self.assertEqual(told[0], min(told))
                lengths.add(len(told))
        self.assertTrue(lengths >= {3, 4, 5}, lengths)

    def test_the_crowded_nets(self):
        for net, table in ((worlds.CROWDED, worlds.CROWDED_TABLE), (worlds.FULL, worlds.FULL_TABLE)):
            for lanes in ((0,) * 8, (0, 0, 0, 0, 1, 1, 1, 1), (0, 1, 2, 3, 0, 1, 2, 3), (0, 1, 2, 3, 4, 5, 6, 0)):
                self.assertEqual(knot(net, table, lanes), worlds.slow_knot(net, table, lanes))


if __name__ == "__main__":
    unittest.main()
