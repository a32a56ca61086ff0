"""[13] Goings where there is an order, and [8] letters that a knot tells, which stick."""

import random
import unittest

from tests import slow, worlds
from wormways.bending import bent
from wormways.fewest import fewest
from wormways.going import Going
from wormways.orders import knot, order


def ordered_worlds(seed, count):
    """Nets, tables and lanes by which there is an order and some letter can go."""
    chance = random.Random(seed)
    told = 0
    for net, table, lanes in worlds.worlds(seed + 1, 10 * count):
        if told < count and worlds.ways(net, table, lanes):
            told += 1
            yield net, table, lanes if order(net, table, lanes) is not None else fewest(net, table)
    for many in range(3, 9):
        net = worlds.ring_and_more(chance, many, 4)
        table = worlds.random_table(chance, net, deep=True)
        yield net, table, fewest(net, table)
    yield worlds.CROWDED, worlds.CROWDED_TABLE, (0, 1, 2, 3, 4, 5, 6, 7)
    yield worlds.FULL, worlds.FULL_TABLE, fewest(worlds.FULL, worlds.FULL_TABLE)


class WithAnOrder(unittest.TestCase):
    def goes_till_over(self, chance, net, table, lanes, room, letters, rate, most):
        """In each beat a piece goes on till all letters came, with letters sent at this rate."""
        going = Going(net, table, lanes, room)
        fit = sorted(worlds.ways(net, table, lanes))
        sent = 0
        while sent < letters or not going.is_over():
            while sent < letters and (going.is_over() or chance.random() < rate):
                self.assertEqual(going.send(*chance.choice(fit), chance.randint(1, most)), sent)
                sent += 1
            self.assertIs(going.beat(), True)
        self.assertEqual(sorted(going.come()), list(range(letters)))
        self.assertEqual(going.held(), [])
        self.assertIs(going.beat(), False)

    def test_in_each_beat_a_piece_goes_on_till_all_letters_came(self):
        chance = random.Random(131)
        for net, table, lanes in ordered_worlds(132, 80):
            self.assertIsNotNone(order(net, table, lanes))
            self.goes_till_over(chance, net, table, lanes, chance.choice((1, 1, 2, 9)), chance.choice((5, 20, 60)),
                                chance.choice((0.1, 0.5, 0.9, 1.0)), chance.choice((1, 4, 20)))

    def test_sixty_letters_of_99_pieces_at_once(self):
        chance = random.Random(133)
        for net, table in ((worlds.CROWDED, worlds.CROWDED_TABLE), (worlds.STREET, worlds.STREET_TABLE)):
            going = Going(net, table, fewest(net, table), 1)
            fit = sorted(worlds.ways(net, table, (0,) * net[0]))
            for number in range(60):
                going.send(*chance.choice(fit), 99)
            beats = 0
            while not going.is_over():
                self.assertIs(going.beat(), True)
                beats += 1
            self.assertGreater(beats, 99)
            self.assertEqual(sorted(going.come()), list(range(60)))

    def test_by_bent_tables_too_whatever_the_lanes(self):
        chance = random.Random(134)
        for turn in range(30):
            net = worlds.joined_net(chance, chance.randint(3, 8), chance.randint(4, 12), chance.randint(0, 3))
            table = bent(net, [], chance.randrange(net[0]))
            if table != worlds.empty_table(net[0]):
                lanes = tuple(chance.choice((0, 0, 0, 7)) for goal in range(net[0]))
                self.goes_till_over(chance, net, table, lanes, 1, 40, 0.9, 9)

    def test_each_piece_goes_on_as_often_as_its_way_has_ties_and_once_more(self):
        chance = random.Random(135)
        for net, table, lanes in ordered_worlds(136, 25):
            roads = worlds.ways(net, table, lanes)
            letters = [(*chance.choice(sorted(roads)), chance.randint(1, 6)) for number in range(15)]
            going, other = Going(net, table, lanes, 2), slow.SlowGoing(net, table, lanes, 2)
            for letter in letters:
                going.send(*letter)
                other.send(*letter)
            while going.beat():
                other.beat()
                self.assertEqual(going.held(), other.held())
            self.assertEqual(other.hops, [many * (len(roads[start, goal]) + 1) for start, goal, many in letters])

    def test_a_letter_of_one_piece_is_on_each_lane_of_its_way_in_turn(self):
        chance = random.Random(137)
        for net, table, lanes in ordered_worlds(138, 25):
            roads = worlds.ways(net, table, lanes)
            letters = [chance.choice(sorted(roads)) for number in range(12)]
            going = Going(net, table, lanes, 1)
            seen = [[] for letter in letters]
            for letter in letters:
                going.send(*letter, 1)
            while going.beat():
                for lane, number, pieces in going.held():
                    self.assertEqual(pieces, 1)
                    if seen[number][-1:] != [lane]:
                        seen[number].append(lane)
            self.assertEqual(seen, [roads[letter] for letter in letters])

    def test_alone_a_letter_of_one_piece_takes_a_beat_for_each_tie_and_one_more(self):
        for net, table, lanes in ordered_worlds(139, 25):
            for (start, goal), road in worlds.ways(net, table, lanes).items():
                going = Going(net, table, lanes, 1)
                going.send(start, goal, 1)
                for lane in road:
                    self.assertIs(going.beat(), True)
                    self.assertEqual(going.held(), [(lane, 0, 1)])
                self.assertIs(going.beat(), True)
                self.assertIs(going.is_over(), True)

    def test_a_letter_waits_for_none_of_a_greater_number(self):
        # Letters 1 to 9, sent behind it, go by the same lanes.
        for room in (1, 2):
            alone, going = (Going(worlds.STREET, worlds.STREET_TABLE, (0, 0, 0, 0), room) for turn in range(2))
            for letter in ((0, 3, 7), *[(0, 3, 9)] * 9):
                going.send(*letter)
            alone.send(0, 3, 7)
            while not alone.is_over():
                alone.beat()
                going.beat()
                self.assertEqual(alone.held(), [told for told in going.held() if told[1] == 0])
            self.assertEqual(going.come(), [0])


class WithAKnot(unittest.TestCase):
    def sticks(self, net, table, lanes, room, many):
        told = knot(net, table, lanes)
        going = Going(net, table, lanes, room)
        for letter in told:
            going.send(*letter, many)
        while going.beat():
            pass
        roads = worlds.ways(net, table, lanes)
        for turn in range(3):
            # Each one sits on its first lane, and wants what the next one holds.
            held = sorted((roads[letter][0], number, min(room, many)) for number, letter in enumerate(told))
            self.assertEqual(going.held(), held)
            self.assertEqual(going.come(), [])
            self.assertIs(going.is_over(), False)
            self.assertIs(going.beat(), False)

    def test_letters_sent_as_a_knot_tells_stick(self):
        chance = random.Random(141)
        lengths = set()
        for turn in range(150):
            many = chance.randint(3, 8)
            net = worlds.ring_and_more(chance, many, chance.randint(0, 6))
            table = worlds.random_table(chance, net, deep=True)
            lanes = tuple(chance.choice((0, 0, 0, 1)) for goal in range(many))
            told = knot(net, table, lanes)
            if told is not None:
                lengths.add(len(told))
                self.sticks(net, table, lanes, chance.choice((1, 2, 9)), chance.choice((1, 2, 30, 99)))
        self.assertGreaterEqual(lengths, {3, 4, 5})

    def test_the_crowded_nets(self):
        for net, table in ((worlds.CROWDED, worlds.CROWDED_TABLE), (worlds.FULL, worlds.FULL_TABLE), worlds.ring(8)):
            for room in (1, 9):
                self.sticks(net, table, (0,) * 8, room, 99)
                self.sticks(net, table, (0,) * 8, room, 1)

    def test_sent_one_by_one_the_same_letters_come(self):
        net, table = worlds.ring(5)
        going = Going(net, table, (0,) * 5, 1)
        for letter in knot(net, table, (0,) * 5):
            going.send(*letter, 3)
            while not going.is_over():
                self.assertIs(going.beat(), True)
        self.assertEqual(going.come(), [0, 1, 2, 3, 4])


if __name__ == "__main__":
    unittest.main()
