"""[4] Lanes and BadLanes; letters go on their goal's number."""

import unittest

from tests import worlds
from tests.askings import handed_lanes
from wormways.errors import BadLanes, BadPaper, BadRoom
from wormways.going import Going
from wormways.orders import knot, needs, order, shows

BAD = (
    # Other counts.
    (), (0,), (0, 0, 0), (0, 0, 0, 0, 0), (0,) * 8,
    # Numbers that there aren't.
    (-1, 0, 0, 0), (0, 0, 0, -1), (8, 0, 0, 0), (0, 8, 0, 0), (0, 0, 0, 8), (10 ** 5000, 0, 0, 0),
    # Other kinds.
    0, 4, True, False, (True, 0, 0, 0), (0, 0, False, 0), (0, 0, 0, True), ((), 0, 0, 0), (0, (0,), 0, 0),
    (0, 0, 0, (0, 0)), ((0, 0, 0, 0),), ((0, 0), (0, 0), (0, 0), (0, 0)),
)


class Lanes(unittest.TestCase):
    def refused(self, lanes, paper=(), room=1):
        for asking in handed_lanes(worlds.STREET, worlds.STREET_TABLE, lanes, paper, room):
            with self.assertRaises(BadLanes) as caught:
                asking()
            self.assertIs(type(caught.exception), BadLanes)

    def test_all_others_are_refused(self):
        for at, lanes in enumerate(BAD):
            with self.subTest(at):
                self.refused(lanes)

    def test_bad_lanes_are_refused_ahead_of_a_bad_paper_and_a_bad_room(self):
        for lanes in BAD:
            for room in (0, 10, True, ()):
                self.refused(lanes, [(0, 8), True, (0, 0), (0, 0)], room)
        with self.assertRaises(BadPaper):
            shows(worlds.STREET, worlds.STREET_TABLE, (0, 0, 0, 0), [True])
        with self.assertRaises(BadRoom):
            Going(worlds.STREET, worlds.STREET_TABLE, (0, 0, 0, 0), 10)

    def test_numbers_from_0_to_7(self):
        net, table = worlds.PAIR, worlds.PAIR_TABLE
        for first in range(8):
            for second in range(8):
                lanes = (first, second)
                self.assertEqual(needs(net, table, lanes), [])
                self.assertEqual(order(net, table, lanes), [(0, second), (1, first)])
                self.assertIsNone(knot(net, table, lanes))
                self.assertIs(shows(net, table, lanes, [(1, first), (0, second)]), True)
                going = Going(net, table, lanes, 1)
                going.send(0, 1, 1)
                going.send(1, 0, 1)
                self.assertIs(going.beat(), True)
                self.assertEqual(going.held(), [((0, second), 0, 1), ((1, first), 1, 1)])

    def test_a_letter_goes_on_its_goals_number(self):
        told = order(worlds.STREET, worlds.STREET_TABLE, (4, 5, 6, 7))
        # The lanes of goal 0 have number 4, and so on.
        self.assertEqual(told, worlds.slow_order(worlds.STREET, worlds.STREET_TABLE, (4, 5, 6, 7)))
        self.assertEqual(sorted(told), [(0, 5), (0, 6), (0, 7), (1, 6), (1, 7), (2, 7), (3, 4), (4, 4), (4, 5), (5, 4),
                                        (5, 5), (5, 6)])

    def test_unlike_numbers_for_goals_that_no_letter_has(self):
        net = (8, ((0, 1),))
        table = worlds.put(worlds.empty_table(8), 0, 1, 0)
        self.assertEqual(order(net, table, (7, 6, 5, 4, 3, 2, 1, 0)), [(0, 6)])


if __name__ == "__main__":
    unittest.main()
