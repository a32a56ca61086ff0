"""[1] Nothing that is handed in is changed or kept; asked again the same is told."""

import inspect
import unittest

from tests import worlds
from wormways import fewest as fewest_file
from wormways import orders as orders_file
from wormways.fewest import fewest
from wormways.orders import knot, needs, order, shows


def spoil(told):
    """Change a list that was told in every way a list can be changed."""
    if isinstance(told, list):
        told.reverse()
        told[:1] = [None, (9, 9)]
        told.append("more")


class AskedTwice(unittest.TestCase):
    def told_twice(self, function, *given):
        before = repr(given)
        first = function(*given)
        kept = repr(first)
        spoil(first)
        second = function(*given)
        self.assertEqual(repr(second), kept)
        spoil(second)
        self.assertEqual(repr(function(*given)), kept)
        self.assertEqual(repr(given), before)

    def test_each_function_tells_the_same_though_what_it_told_was_spoilt(self):
        ring, table = worlds.ring(5)
        told = ((worlds.STREET, worlds.STREET_TABLE, (0, 1, 0, 1)), (ring, table, (0,) * 5), (ring, table, (0, 1, 2, 3, 4)),
                (worlds.PAIR, worlds.empty_table(2), (0, 0)))
        for net, table, lanes in told:
            for function in (needs, order, knot):
                with self.subTest(function.__name__, net=net, lanes=lanes):
                    self.told_twice(function, net, table, lanes)
            self.told_twice(fewest, net, table)

    def test_a_paper_is_not_changed_and_not_kept(self):
        given = (worlds.STREET, worlds.STREET_TABLE, (0, 0, 0, 0))
        paper = [(2, 7), *order(*given), (0, 7)]
        self.told_twice(shows, *given, paper)
        self.assertIs(shows(*given, paper), True)
        # The same list, with other lanes in it, is another paper.
        paper.reverse()
        self.assertIs(shows(*given, paper), False)
        self.told_twice(shows, *given, paper)
        paper.clear()
        self.assertIs(shows(*given, paper), False)

    def test_what_is_told_of_one_net_is_not_told_of_another(self):
        for many in (3, 4, 5):
            net, table = worlds.ring(many)
            self.assertEqual(len(knot(net, table, (0,) * many)), len(worlds.slow_knot(net, table, (0,) * many)))
            self.assertEqual(needs(net, table, (1,) * many), worlds.slow_needs(net, table, (1,) * many))
            self.assertEqual(needs(net, table, (2,) * many), worlds.slow_needs(net, table, (2,) * many))


class Interface(unittest.TestCase):
    def test_names_and_arguments(self):
        told = ((needs, ["net", "table", "lanes"]), (order, ["net", "table", "lanes"]),
                (knot, ["net", "table", "lanes"]), (shows, ["net", "table", "lanes", "paper"]),
                (fewest, ["net", "table"]))
        for function, names in told:
            self.assertEqual(list(inspect.signature(function).parameters), names)

    def test_each_function_is_defined_in_its_file(self):
        for function in (needs, order, knot, shows):
            self.assertEqual(function.__module__, orders_file.__name__)
        self.assertEqual(fewest.__module__, fewest_file.__name__)
        self.assertEqual(fewest_file.__name__, "wormways.fewest")
        self.assertEqual(orders_file.__name__, "wormways.orders")

    def test_arguments_may_be_named(self):
        given = {"net": worlds.PAIR, "table": worlds.PAIR_TABLE}
        self.assertEqual(fewest(**given), (0, 0))
        given["lanes"] = (0, 0)
        self.assertEqual(needs(**given), [])
        self.assertEqual(order(**given), [(0, 0), (1, 0)])
        self.assertIsNone(knot(**given))
        self.assertIs(shows(paper=[(0, 0), (1, 0)], **given), True)

    def test_kinds_of_what_is_told(self):
        net, table = worlds.ring(4)
        for lanes in ((0, 0, 0, 0), (0, 0, 1, 1)):
            for told in (needs(net, table, lanes), order(net, table, lanes), knot(net, table, lanes)):
                self.assertIn(type(told), (list, type(None)))
                for item in told or ():
                    self.assertIs(type(item), tuple)
                    self.assertEqual(len(item), 2)
        self.assertIs(type(fewest(net, table)), tuple)
        for number in fewest(net, table):
            self.assertIs(type(number), int)


if __name__ == "__main__":
    unittest.main()
