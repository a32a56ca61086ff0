"""[10], [11], [12] Going: its room, what is sent, and each beat."""

import random
import unittest

from tests import slow, worlds
from wormways.errors import BadLetter, BadRoom
from wormways.going import Going

LANES = (0, 0, 0, 0)


def street(room, *letters):
    """A going on the street, with these letters sent."""
    going = Going(worlds.STREET, worlds.STREET_TABLE, LANES, room)
    for at, letter in enumerate(letters):
        assert going.send(*letter) == at
    return going


def right(*counts):
    """What is held where letters (number, pieces) hold ties 0, 1, 2 on number 0; None for a free one."""
    return [((tie, 0), *told) for tie, told in enumerate(counts) if told is not None]


class Rooms(unittest.TestCase):
    def test_rooms_from_1_to_9(self):
        for room in range(1, 10):
            going = street(room)
            # Tie 1 stays with letter 0, so letter 1 fills tie 0.
            going.send(1, 2, 99)
            going.send(0, 2, 99)
            for turn in range(20):
                going.beat()
            self.assertEqual(going.held()[0], ((0, 0), 1, room))

    def test_other_rooms(self):
        for room in (0, 10, -1, 11, -9, 10 ** 5000, -10 ** 5000, True, False, (), (1,), (1, 2), [], [1], "1", "", None,
                     {}, b"1"):
            with self.assertRaises(BadRoom) as caught:
                street(room)
            self.assertIs(type(caught.exception), BadRoom)


class Sent(unittest.TestCase):
    def refused(self, going, *letter):
        before = (going.held(), going.come(), going.is_over())
        with self.assertRaises(BadLetter) as caught:
            going.send(*letter)
        self.assertIs(type(caught.exception), BadLetter)
        self.assertEqual((going.held(), going.come(), going.is_over()), before)

    def test_numbers_count_from_0(self):
        going = street(1)
        for number in range(60):
            told = going.send(number % 4, (number + 1) % 4, 1)
            self.assertEqual(told, number)
            self.assertIs(type(told), int)

    def test_each_letter_to_which_a_way_is_told(self):
        for start in range(4):
            for goal in range(4):
                if start == goal:
                    self.refused(street(1), start, goal, 1)
                else:
                    self.assertEqual(street(1).send(start, goal, 1), 0)

    def test_pieces_from_1_to_99(self):
        for many in (1, 2, 50, 98, 99):
            going = street(1, (0, 1, many))
            beats = 0
            while not going.is_over():
                self.assertIs(going.beat(), True)
                beats += 1
            # With room for one a lane takes a piece in each second beat.
            self.assertEqual(beats, 2 * many)
            self.assertEqual(going.come(), [0])

    def test_other_counts_of_pieces(self):
        going = street(1, (0, 1, 5))
        for many in (0, 100, -1, 101, 10 ** 5000, -10 ** 5000, True, False, (), (1,), [], [1], "1", None):
            self.refused(going, 0, 1, many)
            self.refused(going, 3, 0, many)

    def test_houses_that_there_are_not(self):
        going = street(1)
        for house in (-1, 4, -4, -3, 5, 8, 99, 10 ** 5000, -10 ** 5000, True, False, (), (1,), (0, 1), [], "1", None):
            for other in range(4):
                self.refused(going, house, other, 1)
                self.refused(going, other, house, 1)
            self.refused(going, house, house, 1)

    def test_as_many_houses_as_there_are(self):
        for many in range(2, 9):
            net, table = worlds.ring(many)
            going = Going(net, table, (0,) * many, 1)
            self.assertEqual(going.send(many - 1, 0, 1), 0)
            self.assertEqual(going.send(0, many - 1, 1), 1)
            for letter in ((many, 0, 1), (0, many, 1), (-1, 0, 1), (0, -1, 1)):
                self.refused(going, *letter)

    def test_where_no_way_is_told(self):
        going = Going(worlds.STREET, worlds.put(worlds.STREET_TABLE, 0, 3, -1), LANES, 1)
        self.refused(going, 0, 3, 1)
        self.assertEqual(going.send(1, 3, 1), 0)
        going = Going((2, ()), worlds.empty_table(2), (0, 0), 1)
        for start in (0, 1):
            for goal in (0, 1):
                self.refused(going, start, goal, 1)

    def test_sixty_letters_and_no_more(self):
        going = street(9, *[(0, 3, 1)] * 60)
        for letter in ((0, 3, 1), (3, 0, 99), (1, 2, 1)):
            self.refused(going, *letter)
        for turn in range(1000):
            going.beat()
        self.assertEqual(going.come(), list(range(60)))
        # Those that came count, too.
        self.refused(going, 0, 3, 1)
        self.assertTrue(going.is_over())

    def test_refused_letters_do_not_count_among_the_sixty(self):
        going = street(1)
        for turn in range(100):
            self.refused(going, 0, 0, 1)
        for number in range(60):
            self.refused(going, 1, 2, 0)
            self.assertEqual(going.send(1, 2, 1), number)
        self.refused(going, 1, 2, 1)

    def test_a_refused_letter_changes_nothing_of_what_is_told_later(self):
        chance = random.Random(101)
        for turn in range(20):
            clean, tried = street(2), street(2)
            for beat in range(40):
                if chance.random() < 0.3:
                    letter = (*chance.sample(range(4), 2), chance.randint(1, 9))
                    self.assertEqual(clean.send(*letter), tried.send(*letter))
                for letter in ((0, 0, 1), (0, 4, 1), (-1, 2, 1), (1, 3, 0), (2, 0, 100), (True, 3, 1), (0, 1, True)):
                    self.refused(tried, *letter)
                self.assertIs(clean.beat(), tried.beat())
                self.assertEqual(clean.held(), tried.held())
                self.assertEqual(clean.come(), tried.come())
                self.assertIs(clean.is_over(), tried.is_over())


class Beats(unittest.TestCase):
    def goes(self, going, *steps):
        """In each beat a piece goes on, and then this is held."""
        for at, held in enumerate(steps):
            self.assertIs(going.beat(), True, at)
            self.assertEqual(going.held(), held, at)

    def over(self, going, come):
        self.assertIs(going.is_over(), True)
        self.assertEqual(going.come(), come)
        self.assertEqual(going.held(), [])
        self.assertIs(going.beat(), False)

    def test_no_letter_at_all(self):
        going = street(1)
        self.over(going, [])
        self.over(going, [])
        going = Going((2, ()), worlds.empty_table(2), (0, 0), 9)
        self.over(going, [])

    def test_a_letter_that_was_sent_holds_nothing_ahead_of_the_next_beat(self):
        going = street(1, (0, 3, 1))
        self.assertEqual(going.held(), [])
        self.assertEqual(going.come(), [])
        self.assertIs(going.is_over(), False)

    def test_one_piece(self):
        going = street(1, (0, 3, 1))
        self.goes(going, right((0, 1)), right(None, (0, 1)), right(None, None, (0, 1)))
        self.assertIs(going.is_over(), False)
        self.goes(going, [])
        self.over(going, [0])

    def test_a_full_lane_takes_none_in_the_beat_in_which_it_hands_one_on(self):
        going = street(1, (0, 3, 3))
        self.goes(going, right((0, 1)), right((0, 0), (0, 1)), right((0, 1), (0, 0), (0, 1)),
                  right((0, 0), (0, 1), (0, 0)), right((0, 1), (0, 0), (0, 1)), right(None, (0, 1), (0, 0)),
                  right(None, None, (0, 1)))
        self.assertEqual(going.come(), [])
        self.goes(going, [])
        self.over(going, [0])

    def test_with_room_for_two_all_pieces_follow_one_another(self):
        going = street(2, (0, 3, 5))
        self.goes(going, right((0, 1)), right((0, 1), (0, 1)), right((0, 1), (0, 1), (0, 1)),
                  right((0, 1), (0, 1), (0, 1)), right((0, 1), (0, 1), (0, 1)), right(None, (0, 1), (0, 1)),
                  right(None, None, (0, 1)), [])
        self.over(going, [0])

    def test_a_lane_that_was_let_go_is_free_from_the_next_beat_on(self):
        going = street(1, (0, 1, 1), (0, 1, 1))
        self.goes(going, right((0, 1)), [])
        self.assertEqual(going.come(), [0])
        self.goes(going, right((1, 1)), [])
        self.over(going, [0, 1])

    def test_a_lane_that_a_letter_wants_is_let_go_and_taken_a_beat_later(self):
        going = street(1, (1, 2, 2), (0, 2, 1))
        self.goes(going, right((1, 1), (0, 1)), right((1, 1), (0, 0)), right((1, 1), (0, 1)))
        # The last piece of letter 0 comes in this beat, so letter 1 asks in vain once more.
        self.goes(going, right((1, 1)))
        self.assertEqual(going.come(), [0])
        self.goes(going, right(None, (1, 1)), [])
        self.over(going, [0, 1])

    def test_of_several_the_least_number_gets_the_lane(self):
        going = street(1, (0, 1, 1), (0, 2, 1), (0, 3, 1))
        self.goes(going, right((0, 1)), [], right((1, 1)), right(None, (1, 1)), right((2, 1)), right(None, (2, 1)))

    def test_the_least_number_gets_the_lane_whether_it_is_its_first_or_a_later_one(self):
        going = street(1, (0, 2, 1))
        self.goes(going, right((0, 1)))
        going.send(1, 2, 1)
        self.goes(going, right(None, (0, 1)), [], right(None, (1, 1)), [])
        self.over(going, [0, 1])
        # Now the letter that begins there has the lesser number.
        going = street(1, (1, 2, 1), (1, 2, 1), (0, 2, 1))
        self.goes(going, right((2, 1), (0, 1)), right((2, 1)), right((2, 1), (1, 1)), right((2, 1)),
                  right(None, (2, 1)), [])
        self.over(going, [0, 1, 2])

    def test_a_lane_that_is_held_is_not_taken_away_by_a_lesser_number(self):
        going = street(1, (0, 2, 1), (1, 2, 3))
        self.goes(going, right((0, 1), (1, 1)), right((0, 1), (1, 0)), right((0, 1), (1, 1)), right((0, 1), (1, 0)),
                  right((0, 1), (1, 1)), right((0, 1)))
        self.assertEqual(going.come(), [1])
        self.goes(going, right(None, (0, 1)), [])
        self.over(going, [1, 0])

    def test_a_lane_fills_up_while_the_next_one_is_held(self):
        going = street(3, (1, 2, 6), (0, 2, 5))
        self.goes(going, right((1, 1), (0, 1)), right((1, 2), (0, 1)), right((1, 3), (0, 1)), right((1, 3), (0, 1)),
                  right((1, 3), (0, 1)), right((1, 3), (0, 1)), right((1, 3)))
        self.assertEqual(going.come(), [0])
        # Of three on a full lane one goes on, and none comes behind it; then one goes and one comes.
        self.goes(going, right((1, 2), (1, 1)), right((1, 2), (1, 1)), right((1, 2), (1, 1)), right((1, 1), (1, 1)),
                  right(None, (1, 1)), [])
        self.over(going, [0, 1])

    def test_no_piece_goes_on_to_a_lane_that_another_letter_holds(self):
        net, table = worlds.ring(3)
        going = Going(net, table, (0, 0, 0), 2)
        for letter in ((0, 2, 3), (1, 0, 3), (2, 1, 3)):
            going.send(*letter)
        self.assertIs(going.beat(), True)
        self.assertEqual(going.held(), right((0, 1), (1, 1), (2, 1)))
        self.assertIs(going.beat(), True)
        for turn in range(5):
            self.assertEqual(going.held(), right((0, 2), (1, 2), (2, 2)))
            self.assertIs(going.beat(), False)
        self.assertEqual(going.come(), [])
        self.assertIs(going.is_over(), False)

    def test_unlike_numbers_are_unlike_lanes_of_one_tie(self):
        going = Going(worlds.STREET, worlds.STREET_TABLE, (0, 3, 1, 7), 1)
        for letter in ((0, 1, 1), (0, 2, 1), (0, 3, 2)):
            going.send(*letter)
        going.beat()
        self.assertEqual(going.held(), [((0, 1), 1, 1), ((0, 3), 0, 1), ((0, 7), 2, 1)])
        going.beat()
        self.assertEqual(going.held(), [((0, 7), 2, 0), ((1, 1), 1, 1), ((1, 7), 2, 1)])
        self.assertEqual(going.come(), [0])

    def test_what_is_held_rises_by_lanes_and_not_by_letters(self):
        going = street(1, (3, 2, 1), (2, 1, 1), (0, 1, 1))
        going.beat()
        self.assertEqual(going.held(), [((0, 0), 2, 1), ((4, 0), 1, 1), ((5, 0), 0, 1)])

    def test_letters_that_come_in_one_beat_are_told_by_their_numbers(self):
        going = street(1, (3, 0, 1), (1, 3, 1), (3, 2, 1), (0, 1, 1), (2, 1, 1))
        told = []
        while not going.is_over():
            self.assertIs(going.beat(), True)
            told.append(going.come())
        # Letter 0 waits a beat for tie 4, and letter 2 for tie 5, which letter 0 holds till then.
        self.assertEqual(told, [[], [3, 4], [3, 4, 1], [3, 4, 1], [3, 4, 1, 0, 2]])

    def test_letters_may_be_sent_when_all_is_over(self):
        going = street(1, (0, 1, 1))
        self.goes(going, right((0, 1)), [])
        self.over(going, [0])
        self.assertEqual(going.send(1, 2, 1), 1)
        self.assertIs(going.is_over(), False)
        self.goes(going, right(None, (1, 1)), [])
        self.over(going, [0, 1])

    def test_more_pieces_than_all_lanes_have_room_for(self):
        for room in (1, 2, 9):
            going = street(room, (0, 3, 99))
            beats = 0
            while going.beat():
                beats += 1
                for lane, number, pieces in going.held():
                    self.assertIn(pieces, (0, 1))
            # One piece each beat, or each second one, and the last one goes by three lanes more.
            self.assertEqual(beats, (99 + 3) if room > 1 else (2 * 98 + 1 + 3))
            self.over(going, [0])


class BesideASlowGoing(unittest.TestCase):
    def beside(self, chance, net, table, lanes, room, letters, most):
        going, other = Going(net, table, lanes, room), slow.SlowGoing(net, table, lanes, room)
        fit = sorted(worlds.ways(net, table, lanes))
        sent = 0
        still = full = 0
        for beat in range(400):
            while fit and sent < letters and (beat == 0 and chance.random() < 0.8 or chance.random() < 0.3):
                start, goal = chance.choice(fit)
                many = chance.randint(1, most)
                self.assertEqual(going.send(start, goal, many), other.send(start, goal, many))
                sent += 1
            went = other.beat()
            self.assertIs(going.beat(), went)
            self.assertEqual(going.held(), other.held())
            self.assertEqual(going.come(), other.come())
            self.assertIs(going.is_over(), other.is_over())
            full += any(pieces == room for lane, number, pieces in going.held())
            still += not went
            if not went and (sent == letters or not fit):
                break
        return full, not other.is_over()

    def test_all_kinds_of_worlds(self):
        chance = random.Random(111)
        full = 0
        for net, table, lanes in worlds.worlds(112, 300):
            told = self.beside(chance, net, table, lanes, chance.choice((1, 1, 2, 3, 9)), chance.randint(0, 12),
                               chance.choice((1, 3, 12, 30)))
            full += told[0]
        self.assertGreater(full, 500)

    def test_letters_that_stick_among_others_that_do_not(self):
        chance = random.Random(114)
        stuck = 0
        for turn in range(100):
            many = chance.choice((3, 4, 5, 6))
            net = worlds.ring_and_more(chance, many, chance.randint(0, 3))
            table = worlds.random_table(chance, net, deep=True)
            lanes = tuple(chance.choice((0, 0, 0, 1)) for goal in range(many))
            stuck += self.beside(chance, net, table, lanes, chance.randint(1, 3), 20, 6)[1]
        self.assertGreater(stuck, 20)
        self.assertLess(stuck, 90)

    def test_many_letters_in_crowded_nets(self):
        chance = random.Random(113)
        for net, table in ((worlds.CROWDED, worlds.CROWDED_TABLE), (worlds.FULL, worlds.FULL_TABLE),
                           (worlds.STREET, worlds.STREET_TABLE), worlds.ring(8)):
            for turn in range(6):
                top = chance.choice((0, 1, 7))
                lanes = tuple(chance.randint(0, top) for goal in range(net[0]))
                self.beside(chance, net, table, lanes, chance.randint(1, 9), 60, chance.choice((1, 9, 99)))


if __name__ == "__main__":
    unittest.main()
