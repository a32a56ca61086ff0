"""[9] fewest."""

import itertools
import random
import unittest

from tests import worlds
from wormways.errors import BadNet, BadTable
from wormways.fewest import fewest
from wormways.orders import knot, order


class Fewest(unittest.TestCase):
    def right(self, net, table):
        """What is told leaves an order, and no fewer numbers do."""
        told = fewest(net, table)
        self.assertEqual(len(told), net[0])
        self.assertEqual(sorted(set(told)), list(range(max(told) + 1)))
        self.assertIsNotNone(order(net, table, told))
        self.assertIsNone(knot(net, table, told))
        for lanes in itertools.product(range(max(told)), repeat=net[0]):
            if order(net, table, lanes) is not None:
                self.fail(f"{lanes} has fewer numbers than {told}")
        return told

    def test_all_numbers_0_where_there_is_no_knot(self):
        self.assertEqual(fewest(worlds.STREET, worlds.STREET_TABLE), (0, 0, 0, 0))
        self.assertEqual(fewest(worlds.PAIR, worlds.PAIR_TABLE), (0, 0))
        for many in range(2, 9):
            self.assertEqual(fewest((many, ()), worlds.empty_table(many)), (0,) * many)
            net, table = worlds.ring(many)
            self.assertEqual(fewest(net, worlds.empty_table(many)), (0,) * many)

    def test_rings_need_a_number_for_each_two_goals(self):
        self.assertEqual(fewest(*worlds.ring(2)), (0, 0))
        self.assertEqual(fewest(*worlds.ring(3)), (0, 0, 1))
        self.assertEqual(fewest(*worlds.ring(4)), (0, 0, 1, 1))
        self.assertEqual(fewest(*worlds.ring(5)), (0, 0, 1, 1, 2))
        self.assertEqual(fewest(*worlds.ring(6)), (0, 0, 1, 1, 2, 2))
        self.assertEqual(fewest(*worlds.ring(7)), (0, 0, 1, 1, 2, 2, 3))
        self.assertEqual(fewest(*worlds.ring(8)), (0, 0, 1, 1, 2, 2, 3, 3))

    def test_a_goal_that_closes_the_ring_may_share_the_first_number(self):
        # The ring of four as 0, 2, 1, 3: now goals 0 and 2 are neighbours, and 1 and 3.
        net = (4, ((0, 2), (2, 1), (1, 3), (3, 0)))
        table = ((-1, 0, 0, 0), (2, -1, 2, 2), (1, 1, -1, 1), (3, 3, 3, -1))
        self.assertEqual(self.right(net, table), (0, 1, 0, 1))

    def test_each_goal_may_need_a_number_of_its_own(self):
        self.assertEqual(fewest(worlds.CROWDED, worlds.CROWDED_TABLE), (0, 1, 2, 3, 4, 5, 6, 7))
        for one, other in itertools.combinations(range(8), 2):
            lanes = tuple(one if goal == other else goal for goal in range(8))
            self.assertIsNotNone(knot(worlds.CROWDED, worlds.CROWDED_TABLE, lanes))

    def test_eight_houses_with_24_ties(self):
        told = fewest(worlds.FULL, worlds.FULL_TABLE)
        self.assertEqual(max(told), 6)
        # Seven numbers for eight goals: just one pair shares a number, and it is the first that can.
        fit = []
        for one, other in itertools.combinations(range(8), 2):
            numbers = {goal: at for at, goal in enumerate(goal for goal in range(8) if goal != other)}
            lanes = tuple(numbers[one if goal == other else goal] for goal in range(8))
            if order(worlds.FULL, worlds.FULL_TABLE, lanes) is not None:
                fit.append(lanes)
        self.assertEqual(told, min(fit))
        chance = random.Random(91)
        for turn in range(30):
            net = worlds.random_net(chance, 8, 24)
            for deep in (False, True):
                table = worlds.random_table(chance, net, deep)
                told = fewest(net, table)
                self.assertIsNotNone(order(net, table, told))
                if max(told) < 3:
                    self.right(net, table)

    def test_nets_of_all_sizes_with_few_ties(self):
        chance = random.Random(92)
        for many in (2, 5, 6, 8):
            for turn in range(12):
                net = worlds.random_net(chance, many, chance.randint(0, min(many + 2, many * (many - 1))))
                table = worlds.random_table(chance, net, deep=turn % 2 == 1)
                self.assertEqual(fewest(net, table), worlds.slow_fewest(net, table))

    def test_nets_of_all_sizes_with_many_ties(self):
        chance = random.Random(93)
        numbers = set()
        for many in (2, 5, 6):
            for turn in range(12):
                net = worlds.random_net(chance, many, min(24, many * (many - 1)))
                table = worlds.random_table(chance, net, deep=turn % 2 == 1)
                told = fewest(net, table)
                self.assertEqual(told, worlds.slow_fewest(net, table))
                numbers.add(max(told))
        self.assertTrue(numbers >= {0, 1}, numbers)

    def test_the_first_of_several_as_tuples_ascend(self):
        numbers = set()
        for net, table, lanes in worlds.worlds(94, 200, sizes=(3, 4, 5)):
            told = fewest(net, table)
            self.assertEqual(told, worlds.slow_fewest(net, table))
            numbers.add(max(told))
        self.assertTrue(numbers >= {0, 1}, numbers)

    def test_the_first_of_several_among_deep_ways(self):
        chance = random.Random(95)
        numbers = set()
        for turn in range(60):
            many = chance.choice((5, 6, 7))
            net = worlds.ring_and_more(chance, many, chance.randint(0, 8))
            table = worlds.random_table(chance, net, deep=True)
            told = fewest(net, table)
            self.assertEqual(told, worlds.slow_fewest(net, table))
            numbers.add(max(told))
        self.assertTrue(numbers >= {1, 2, 3}, numbers)

    def test_goals_without_letters_have_number_0(self):
        # The ring of three among five houses, of which 0 and 4 have no tie.
        net = (5, ((1, 2), (2, 3), (3, 1)))
        table = ((-1,) * 5, (-1, -1, 0, 0, -1), (-1, 1, -1, 1, -1), (-1, 2, 2, -1, -1), (-1,) * 5)
        self.assertEqual(fewest(net, table), (0, 0, 0, 1, 0))

    def test_a_net_and_a_table_that_are_none(self):
        with self.assertRaises(BadNet):
            fewest((1, ()), ((-1,),))
        with self.assertRaises(BadNet):
            fewest((2, ((0, 0),)), 0)
        with self.assertRaises(BadTable) as caught:
            fewest(worlds.PAIR, ((-1, 0), (0, -1)))
        self.assertEqual(caught.exception.place, (1, 0))


if __name__ == "__main__":
    unittest.main()
