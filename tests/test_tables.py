"""[3] Tables, and BadTable with the place that is told."""

import random
import unittest

from tests import worlds
from tests.askings import handed_tables
from wormways.errors import BadTable
from wormways.fewest import fewest
from wormways.going import Going
from wormways.notes import read, written
from wormways.orders import knot, needs, order, shows

# Houses 0 to 3 with ties both ways between neighbours of a ring, and one across.
NET = (4, ((0, 1), (1, 2), (2, 3), (3, 0), (1, 0), (2, 1), (3, 2), (0, 3), (0, 2)))
TABLE = ((-1, 0, 8, 7), (4, -1, 1, 1), (2, 5, -1, 2), (3, 6, 6, -1))


def right_number(net, house, goal, thing):
    """Whether a table may have the thing there, by the words of the document."""
    if type(thing) is not int:
        return False
    ties = net[1]
    return thing == -1 or (0 <= thing < len(ties) and ties[thing][0] == house and house != goal)


def place_of(net, table):
    """The place that is to be told of a table, or None."""
    many = net[0]
    if type(table) is not tuple or len(table) != many:
        return (0, 0)
    for house in range(many):
        if type(table[house]) is not tuple or len(table[house]) != many:
            return (house, 0)
        for goal in range(many):
            if not right_number(net, house, goal, table[house][goal]):
                return (house, goal)
    for house in range(many):
        for goal in range(many):
            at, steps = house, 0
            while table[at][goal] != -1 and steps < 99:
                at, steps = net[1][table[at][goal]][1], steps + 1
            if table[house][goal] != -1 and at != goal:
                return (house, goal)
    return None


class Tables(unittest.TestCase):
    def refused(self, place, table, net=NET, lanes=(0, 0, 0, 0), paper=(), room=1):
        self.assertEqual(place_of(net, table), place)
        for asking in handed_tables(net, table, lanes, paper, room):
            with self.assertRaises(BadTable) as caught:
                asking()
            self.assertEqual(caught.exception.place, place)
            self.assertIs(type(caught.exception), BadTable)
            self.assertEqual([type(number) for number in caught.exception.place], [int, int])

    def taken(self, table, net=NET):
        many = net[0]
        lanes = tuple(range(many))
        self.assertEqual(needs(net, table, lanes), worlds.slow_needs(net, table, lanes))
        self.assertEqual(order(net, table, lanes), worlds.slow_order(net, table, lanes))
        self.assertIsNone(knot(net, table, lanes))
        self.assertIs(shows(net, table, lanes, order(net, table, lanes)), True)
        self.assertEqual(len(fewest(net, table)), many)
        self.assertEqual(read(written(net, table)), (net, table))
        going = Going(net, table, lanes, 1)
        for number, (start, goal) in enumerate(worlds.ways(net, table, lanes)):
            self.assertEqual(going.send(start, goal, 1), number)

    def test_tables_that_are_right(self):
        self.taken(TABLE)
        self.taken(worlds.empty_table(4))
        self.taken(worlds.empty_table(4), (4, ()))
        self.taken(worlds.PAIR_TABLE, worlds.PAIR)
        self.taken(worlds.CROWDED_TABLE, worlds.CROWDED)
        self.taken(worlds.FULL_TABLE, worlds.FULL)
        for many in range(2, 9):
            self.taken(worlds.ring(many)[1], worlds.ring(many)[0])

    def test_ways_may_be_left_out_from_their_start_on(self):
        table = worlds.put(TABLE, 0, 2, -1)
        self.taken(table)
        self.taken(worlds.put(worlds.put(table, 2, 0, -1), 1, 0, -1))

    def test_another_count_of_houses(self):
        for table in ((), (TABLE[0],), TABLE[:3], (*TABLE, TABLE[3]), TABLE * 2):
            self.refused((0, 0), table)

    def test_another_count_of_houses_is_told_at_the_first_place_whatever_else_is_wrong(self):
        self.refused((0, 0), (TABLE[0], (9, 9, 9, 9), TABLE[2]))
        self.refused((0, 0), (TABLE[0], 3))

    def test_no_tuple_of_houses(self):
        for table in (0, 4, -1, True, False):
            self.refused((0, 0), table)

    def test_another_count_of_goals(self):
        for house in range(4):
            for row in ((), TABLE[house][:1], TABLE[house][:3], (*TABLE[house], -1), TABLE[house] * 2):
                self.refused((house, 0), (*TABLE[:house], row, *TABLE[house + 1:]))

    def test_another_count_of_goals_is_told_at_the_first_goal_whatever_else_is_wrong(self):
        self.refused((1, 0), (TABLE[0], (4, -1, 99), *TABLE[2:]))
        self.refused((1, 0), (TABLE[0], (4, -1, 1, 1, 99), *TABLE[2:]))

    def test_a_number_or_a_truth_for_a_house(self):
        for house in range(4):
            for row in (0, -1, 4, True, False):
                self.refused((house, 0), (*TABLE[:house], row, *TABLE[house + 1:]))

    def test_a_number_of_no_tie(self):
        for house in range(4):
            for goal in range(4):
                for number in (9, 10, -2, -9, 10 ** 5000, -10 ** 5000):
                    self.refused((house, goal), worlds.put(TABLE, house, goal, number))

    def test_a_tie_that_begins_at_another_house(self):
        for house in range(4):
            for goal in range(4):
                for number in range(9):
                    if NET[1][number][0] != house:
                        self.refused((house, goal), worlds.put(TABLE, house, goal, number))

    def test_a_tie_told_of_a_house_to_itself(self):
        self.refused((0, 0), worlds.put(TABLE, 0, 0, 0))
        self.refused((1, 1), worlds.put(TABLE, 1, 1, 1))
        self.refused((3, 3), worlds.put(TABLE, 3, 3, 6))
        self.refused((1, 1), worlds.put(worlds.empty_table(2), 1, 1, 1), worlds.PAIR, (0, 0))

    def test_truths_and_tuples_for_numbers(self):
        for house in range(4):
            for goal in range(4):
                for thing in (True, False, (), (-1,), (0,), (0, 1), ((),)):
                    self.refused((house, goal), worlds.put(TABLE, house, goal, thing))

    def test_truths_where_the_number_would_be_right(self):
        # Tie 0 begins at house 0 and tie 1 at house 1.
        self.refused((0, 1), worlds.put(TABLE, 0, 1, False))
        self.refused((1, 2), worlds.put(TABLE, 1, 2, True))

    def test_a_net_with_no_tie_has_but_one_table(self):
        self.taken(worlds.empty_table(2), (2, ()))
        for number in (0, 1, -2, False):
            self.refused((1, 0), worlds.put(worlds.empty_table(2), 1, 0, number), (2, ()), (0, 0))

    def test_ways_that_run_in_a_ring(self):
        # From 1 to 2 and back; 0 only leads there.
        self.refused((1, 3), worlds.put(TABLE, 2, 3, 5))
        self.refused((0, 3), worlds.put(worlds.put(TABLE, 2, 3, 5), 0, 3, 0))
        # All houses but the goal in one ring, which the last tie closes.
        for many in range(3, 9):
            net, table = worlds.ring(many)
            net = (many, (*net[1], (many - 1, 1)))
            self.taken(worlds.put(table, many - 1, 0, many - 1), net)
            self.refused((1, 0), worlds.put(table, many - 1, 0, many), net, (0,) * many)

    def test_ways_that_end_ahead_of_the_goal(self):
        self.refused((0, 2), worlds.put(worlds.put(TABLE, 0, 2, 0), 1, 2, -1))
        self.refused((3, 1), worlds.put(TABLE, 2, 1, -1))
        self.refused((0, 1), worlds.put(worlds.empty_table(3), 0, 1, 0), (3, ((0, 2),)), (0, 0, 0))

    def test_the_first_way_that_does_not_come_is_told(self):
        # 0 goes to 3 by 2, which tells no way on; so do all that go by it.
        table = ((-1, 0, 8, 8), (4, -1, 1, 1), (2, 5, -1, -1), (3, 6, 6, -1))
        self.refused((0, 3), table)
        table = worlds.put(table, 0, 3, 7)
        self.refused((1, 3), table)
        self.refused((1, 0), worlds.put(worlds.put(table, 1, 0, 1), 2, 0, -1))

    def test_of_two_wrong_numbers_the_first_is_told(self):
        places = [(house, goal) for house in range(4) for goal in range(4)]
        for first in places:
            for second in places:
                for one, other in ((9, True), ((), -2), (False, 9)):
                    table = worlds.put(worlds.put(TABLE, *second, other), *first, one)
                    self.refused(min(first, second), table)

    def test_a_wrong_number_and_a_house_of_another_count(self):
        for house in range(4):
            for at in range(4):
                table = worlds.put(TABLE, at, 2, 99)
                table = (*table[:house], TABLE[house][:2], *table[house + 1:])
                self.refused(min((house, 0), (at, 2)) if at != house else (house, 0), table)

    def test_a_wrong_number_is_told_ahead_of_a_way_that_does_not_come(self):
        # From 1 to 2 and back, ahead of and behind the wrong number.
        astray = worlds.put(TABLE, 2, 3, 5)
        self.refused((1, 3), astray)
        for house, goal, thing in ((3, 3, 0), (3, 2, True), (2, 3, 9), (1, 3, ()), (1, 2, -2), (0, 0, 0), (0, 3, False)):
            self.refused((house, goal), worlds.put(astray, house, goal, thing))
        short = worlds.put(TABLE, 2, 1, -1)
        self.refused((3, 1), short)
        for house, goal in ((3, 2), (3, 0), (0, 1), (2, 2)):
            self.refused((house, goal), worlds.put(short, house, goal, 99))
        self.refused((3, 0), (*short[:3], short[3][:3]))
        self.refused((2, 0), (*astray[:2], (2, 5, -1), astray[3]))

    def test_tables_at_random(self):
        chance = random.Random(31)
        things = (-2, True, False, (), (0,), 99)
        told = 0
        for net, table, lanes in worlds.worlds(32, 300):
            many = net[0]
            for change in range(chance.randint(1, 3)):
                thing = chance.choice((*things, *range(-1, len(net[1])), *range(-1, len(net[1]))))
                table = worlds.put(table, chance.randrange(many), chance.randrange(many), thing)
            place = place_of(net, table)
            if place is None:
                self.taken(table, net)
            else:
                self.refused(place, table, net, lanes)
                told += 1
        self.assertGreater(told, 100)

    def test_ways_at_random(self):
        chance = random.Random(33)
        wrong = right = 0
        for turn in range(400):
            many = chance.randint(3, 8)
            net = worlds.random_net(chance, many, min(24, many * (many - 1)))
            at = [[number for number, tie in enumerate(net[1]) if tie[0] == house] + [-1] for house in range(many)]
            table = worlds.random_table(chance, net)
            for change in range(chance.randint(1, 3)):
                house, goal = chance.sample(range(many), 2)
                table = worlds.put(table, house, goal, chance.choice(at[house]))
            place = place_of(net, table)
            if place is None:
                right += 1
                self.taken(table, net)
            else:
                wrong += 1
                self.refused(place, table, net, (0,) * many)
        self.assertGreater(wrong, 50)
        self.assertGreater(right, 50)

    def test_a_bad_table_is_refused_ahead_of_bad_lanes_papers_and_rooms(self):
        for lanes in (0, (), (8, 8, 8, 8), (True, 0, 0, 0)):
            self.refused((0, 0), 0, lanes=lanes, paper=[3], room=0)
            self.refused((2, 1), worlds.put(TABLE, 2, 1, ()), lanes=lanes, paper=[(99, 99)], room=10)
            self.refused((1, 3), worlds.put(TABLE, 2, 3, 5), lanes=lanes, paper=[(0, 0), (0, 0)], room=True)


if __name__ == "__main__":
    unittest.main()
