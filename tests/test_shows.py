"""[7] shows and BadPaper."""

import itertools
import random
import unittest

from tests import worlds
from wormways.errors import BadPaper
from wormways.orders import order, shows

LANES = (0, 0, 0, 0)
PAPER = [(0, 0), (1, 0), (2, 0), (5, 0), (4, 0), (3, 0)]


def shown(paper, lanes=LANES):
    return shows(worlds.STREET, worlds.STREET_TABLE, lanes, paper)


class Shows(unittest.TestCase):
    def test_what_order_tells(self):
        self.assertIs(shown(PAPER), True)

    def test_just_the_papers_that_keep_each_need(self):
        right = 0
        for paper in itertools.permutations(PAPER):
            fit = paper.index((0, 0)) < paper.index((1, 0)) < paper.index((2, 0))
            fit = fit and paper.index((5, 0)) < paper.index((4, 0)) < paper.index((3, 0))
            self.assertIs(shown(list(paper)), fit)
            right += fit
        self.assertEqual(right, 20)

    def test_other_lanes_may_stand_among_them(self):
        for at in range(len(PAPER) + 1):
            for lane in ((0, 1), (3, 7), (5, 4)):
                self.assertIs(shown([*PAPER[:at], lane, *PAPER[at:]]), True)
        self.assertIs(shown([(tie, number) for number in range(7, 0, -1) for tie in range(6)] + PAPER), True)
        self.assertIs(shown([(tie, number) for number in range(8) for tie in (2, 1, 0, 5, 4, 3)]), False)

    def test_other_lanes_do_not_make_up_for_a_missing_one(self):
        for at in range(len(PAPER)):
            left = PAPER[:at] + PAPER[at + 1:]
            self.assertIs(shown(left), False)
            self.assertIs(shown([*left, (PAPER[at][0], 1)]), False)

    def test_lanes_that_nothing_needs_must_stand_in_it_too(self):
        given = (worlds.PAIR, worlds.PAIR_TABLE, (0, 0))
        self.assertIs(shows(*given, [(0, 0), (1, 0)]), True)
        self.assertIs(shows(*given, [(1, 0), (0, 0)]), True)
        self.assertIs(shows(*given, [(1, 0)]), False)
        self.assertIs(shows(*given, [(0, 0)]), False)
        self.assertIs(shows(*given, []), False)

    def test_two_lanes_exchanged(self):
        for one, other in itertools.combinations(range(6), 2):
            paper = list(PAPER)
            paper[one], paper[other] = paper[other], paper[one]
            given = (worlds.STREET, worlds.STREET_TABLE, LANES, paper)
            self.assertIs(shows(*given), worlds.slow_shows(*given))
        self.assertIs(shown([(1, 0), (0, 0), *PAPER[2:]]), False)
        self.assertIs(shown([*PAPER[:4], (3, 0), (4, 0)]), False)

    def test_an_empty_paper_where_no_letter_can_go(self):
        given = (worlds.STREET, worlds.empty_table(4), LANES)
        self.assertIs(shows(*given, []), True)
        self.assertIs(shows(*given, [(5, 7), (0, 0)]), True)

    def test_no_paper_where_there_is_a_knot(self):
        net, table = worlds.ring(3)
        for paper in itertools.permutations([(0, 0), (1, 0), (2, 0)]):
            self.assertIs(shows(net, table, LANES[:3], list(paper)), False)

    def test_papers_at_random(self):
        chance = random.Random(71)
        right = wrong = 0
        for net, table, lanes in worlds.worlds(72, 300):
            paper = order(net, table, lanes)
            if paper is None:
                paper = worlds.slow_lanes(net, table, lanes)
            more = [(tie, number) for tie in range(len(net[1])) for number in range(8) if (tie, number) not in paper]
            for lane in chance.sample(more, min(3, len(more))):
                paper.insert(chance.randint(0, len(paper)), lane)
            for change in range(chance.randint(0, 2)):
                if len(paper) > 1:
                    paper.insert(chance.randrange(len(paper)), paper.pop(chance.randrange(len(paper))))
            told = shows(net, table, lanes, paper)
            self.assertIs(told, worlds.slow_shows(net, table, lanes, paper))
            right += told
            wrong += not told
        self.assertGreater(right, 30)
        self.assertGreater(wrong, 30)


class Papers(unittest.TestCase):
    def refused(self, paper, given=(worlds.STREET, worlds.STREET_TABLE, LANES)):
        with self.assertRaises(BadPaper) as caught:
            shows(*given, paper)
        self.assertIs(type(caught.exception), BadPaper)

    def test_the_last_tie_and_the_last_number(self):
        self.assertIs(shown([(5, 7), (0, 7), *PAPER]), True)

    def test_the_same_lane_twice(self):
        for lane in PAPER:
            self.refused([*PAPER, lane])
            self.refused([lane, lane])
        self.refused([*PAPER, (3, 5), (3, 5)])

    def test_ties_and_numbers_that_there_are_not(self):
        for lane in ((6, 0), (-1, 0), (99, 0), (0, 8), (0, -1), (5, 99), (6, 8), (10 ** 5000, 0), (0, 10 ** 5000)):
            self.refused([lane])
            self.refused([lane, *PAPER])
            self.refused([*PAPER, lane])

    def test_other_kinds_in_a_lanes_place(self):
        for lane in ((), (0,), (0, 0, 0), ((0, 0),), ((0,), 0), (0, ()), (0, (0,)), ((0, 0), (0, 0)), 0, 5, True, False,
                     (True, 1), (1, True), (False, 1), (0, False), (True, True)):
            self.refused([lane])
            self.refused([*PAPER, lane])
            self.refused([lane, *PAPER[1:]])

    def test_tuples_numbers_and_truths_for_a_paper(self):
        for paper in ((), tuple(PAPER), (0, 0), 0, 1, True, False):
            self.refused(paper)

    def test_no_lane_where_there_is_no_tie(self):
        given = ((2, ()), worlds.empty_table(2), (0, 0))
        self.assertIs(shows(*given, []), True)
        self.refused([(0, 0)], given)

    def test_refused_also_where_it_would_not_show(self):
        net, table = worlds.ring(3)
        self.refused([(3, 0)], (net, table, LANES[:3]))
        self.refused([(0, 0), (0, 0)], (net, table, LANES[:3]))


if __name__ == "__main__":
    unittest.main()
