"""[1] Nothing that is handed in is changed or kept; asked again the same is told."""

import inspect
import random
import unittest

from tests import worlds
from wormways.bending import bent
from wormways.errors import BadLetter, BadPaper, BadTies
from wormways.fewest import fewest
from wormways.going import Going
from wormways.notes import read, written
from wormways.orders import knot, needs, order, shows


def spoil(told):
    """Change a list that was told in every way a list can be changed."""
    if isinstance(told, list):
        told.reverse()
        told[:1] = [None, (9, 9)]
        told.append("more")


class AskedTwice(unittest.TestCase):
    def told_twice(self, function, *given):
        before = repr(given)
        first = function(*given)
        kept = repr(first)
        spoil(first)
        second = function(*given)
        self.assertEqual(repr(second), kept)
        spoil(second)
        self.assertEqual(repr(function(*given)), kept)
        self.assertEqual(repr(given), before)

    def test_each_function_tells_the_same_though_what_it_told_was_spoilt(self):
        ring, table = worlds.ring(5)
        told = ((worlds.STREET, worlds.STREET_TABLE, (0, 1, 0, 1)), (ring, table, (0,) * 5),
                (ring, table, (0, 1, 2, 3, 4)), (worlds.PAIR, worlds.empty_table(2), (0, 0)))
        for net, table, lanes in told:
            for function in (needs, order, knot):
                with self.subTest(function.__name__, net=net, lanes=lanes):
                    self.told_twice(function, net, table, lanes)
            self.told_twice(fewest, net, table)
            self.told_twice(written, net, table)
            self.told_twice(read, written(net, table))
            for fallen in ([], [0], [1, 0, 1]):
                self.told_twice(bent, net, fallen, 1)

    def test_a_paper_is_not_changed_and_not_kept(self):
        given = (worlds.STREET, worlds.STREET_TABLE, (0, 0, 0, 0))
        paper = [(2, 7), *order(*given), (0, 7)]
        self.told_twice(shows, *given, paper)
        self.assertIs(shows(*given, paper), True)
        # The same list, with other lanes in it, is another paper.
        paper.reverse()
        self.assertIs(shows(*given, paper), False)
        self.told_twice(shows, *given, paper)
        paper.clear()
        self.assertIs(shows(*given, paper), False)

    def test_fallen_ties_are_not_changed_and_not_kept(self):
        net, fallen = worlds.STREET, [1, 4, 1]
        told = bent(net, fallen, 0)
        self.assertEqual(fallen, [1, 4, 1])
        fallen.clear()
        self.assertEqual(bent(net, fallen, 0), worlds.STREET_TABLE)
        self.assertEqual(told, ((-1, 0, -1, -1), (3, -1, -1, -1), (-1,) * 4, (-1,) * 4))
        self.assertEqual(bent(net, [1, 4, 1], 0), told)

    def test_what_is_refused_changes_nothing(self):
        given = (worlds.STREET, worlds.STREET_TABLE, (0, 0, 0, 0))
        for fallen, root in (([5, 0, 6], 0), ([True, 0], 0), ([3, 1], 4)):
            before = repr(fallen)
            for turn in range(2):
                with self.assertRaises(BadTies):
                    bent(worlds.STREET, fallen, root)
                self.assertEqual(repr(fallen), before)
        for paper in ([(1, 0), (0, 0), (1, 0)], [(3, 0), True], [(9, 9)]):
            before = repr(paper)
            for turn in range(2):
                with self.assertRaises(BadPaper):
                    shows(*given, paper)
                self.assertEqual(repr(paper), before)
        self.assertEqual(bent(worlds.STREET, [], 0), worlds.STREET_TABLE)

    def test_what_is_told_of_one_net_is_not_told_of_another(self):
        for many in (3, 4, 5):
            net, table = worlds.ring(many)
            self.assertEqual(len(knot(net, table, (0,) * many)), len(worlds.slow_knot(net, table, (0,) * many)))
            self.assertEqual(needs(net, table, (1,) * many), worlds.slow_needs(net, table, (1,) * many))
            self.assertEqual(needs(net, table, (2,) * many), worlds.slow_needs(net, table, (2,) * many))


class GoingsAskedTwice(unittest.TestCase):
    def states(self, going):
        return repr((going.held(), going.come(), going.is_over()))

    def test_what_is_told_may_be_spoilt(self):
        going, clean = (Going(worlds.STREET, worlds.STREET_TABLE, (0, 0, 0, 0), 2) for turn in range(2))
        for beat in range(30):
            for told in (going.held(), going.come()):
                spoil(told)
            self.assertEqual(self.states(going), self.states(clean))
            self.assertEqual(self.states(going), self.states(going))
            if beat % 4 == 0:
                letter = ((0, 3, 4), (3, 0, 2), (1, 2, 9))[beat % 3]
                self.assertEqual(going.send(*letter), clean.send(*letter))
            spoil(going.held())
            spoil(going.come())
            self.assertIs(going.beat(), clean.beat())
        self.assertGreater(len(clean.come()), 3)

    def test_each_list_is_a_list_of_its_own(self):
        going = Going(worlds.STREET, worlds.STREET_TABLE, (0, 0, 0, 0), 1)
        going.send(0, 1, 1)
        going.send(3, 0, 1)
        going.beat()
        first = (going.held(), going.come())
        going.beat()
        self.assertEqual(first, ([((0, 0), 0, 1), ((5, 0), 1, 1)], []))
        self.assertIsNot(going.held(), going.held())
        self.assertIsNot(going.come(), going.come())

    def test_goings_beside_one_another(self):
        chance = random.Random(11)
        net, table = worlds.ring(6)
        lanes = fewest(net, table)
        both = [Going(net, table, lanes, 2), Going(net, table, lanes, 2)]
        alone = [Going(net, table, lanes, 2), Going(net, table, lanes, 2)]
        plans = [[(*chance.sample(range(6), 2), chance.randint(1, 9)) for number in range(20)] for turn in range(2)]
        told = []
        for going, plan in zip(alone, plans):
            for letter in plan:
                going.send(*letter)
                told.append((going.beat(), self.states(going)))
        beside = [[], []]
        for letters in zip(*plans):
            for at, letter in enumerate(letters):
                both[at].send(*letter)
                beside[at].append((both[at].beat(), self.states(both[at])))
        self.assertEqual(beside[0] + beside[1], told)
        self.assertNotEqual(beside[0], beside[1])

    def test_a_going_does_not_change_what_else_is_told(self):
        net, table = worlds.ring(4)
        lanes = (0, 0, 0, 0)
        before = repr((knot(net, table, lanes), needs(net, table, lanes), fewest(net, table), written(net, table)))
        going = Going(net, table, lanes, 1)
        for letter in knot(net, table, lanes):
            going.send(*letter, 5)
        for beat in range(5):
            going.beat()
        self.assertEqual(repr((knot(net, table, lanes), needs(net, table, lanes), fewest(net, table),
                               written(net, table))), before)

    def test_a_refused_letter_changes_nothing(self):
        going = Going(worlds.STREET, worlds.STREET_TABLE, (0, 0, 0, 0), 1)
        going.send(0, 3, 3)
        for beat in range(4):
            before = self.states(going)
            for letter in ((0, 0, 1), (4, 0, 1), (0, 1, 0), (0, 1, 100), (0, 1, True), (False, 1, 1), ((), 1, 1)):
                with self.assertRaises(BadLetter):
                    going.send(*letter)
            self.assertEqual(self.states(going), before)
            going.beat()
        self.assertEqual(going.send(3, 0, 1), 1)


class Interface(unittest.TestCase):
    def test_names_and_arguments(self):
        told = ((needs, ["net", "table", "lanes"]), (order, ["net", "table", "lanes"]),
                (knot, ["net", "table", "lanes"]), (shows, ["net", "table", "lanes", "paper"]),
                (fewest, ["net", "table"]), (bent, ["net", "fallen", "root"]), (written, ["net", "table"]),
                (read, ["text"]), (Going, ["net", "table", "lanes", "room"]))
        for function, names in told:
            self.assertEqual(list(inspect.signature(function).parameters), names)

    def test_methods_stand_in_the_class_itself(self):
        for name, names in (("send", ["start", "goal", "many"]), ("beat", []), ("held", []), ("come", []),
                            ("is_over", [])):
            method = vars(Going)[name]
            self.assertEqual(list(inspect.signature(method).parameters), ["self", *names])

    def test_each_is_defined_in_its_file(self):
        for name, functions in (("orders", (needs, order, knot, shows)), ("fewest", (fewest,)), ("going", (Going,)),
                                ("bending", (bent,)), ("notes", (written, read))):
            for function in functions:
                self.assertEqual(function.__module__, f"wormways.{name}")

    def test_arguments_may_be_named(self):
        given = {"net": worlds.PAIR, "table": worlds.PAIR_TABLE}
        self.assertEqual(fewest(**given), (0, 0))
        given["lanes"] = (0, 0)
        self.assertEqual(needs(**given), [])
        self.assertEqual(order(**given), [(0, 0), (1, 0)])
        self.assertIsNone(knot(**given))
        self.assertIs(shows(paper=[(0, 0), (1, 0)], **given), True)
        self.assertEqual(bent(root=1, fallen=[], net=worlds.PAIR), worlds.PAIR_TABLE)
        self.assertEqual(read(text=written(table=worlds.PAIR_TABLE, net=worlds.PAIR)), (worlds.PAIR, worlds.PAIR_TABLE))
        going = Going(room=1, **given)
        self.assertEqual(going.send(many=1, goal=0, start=1), 0)

    def test_kinds_of_what_is_told(self):
        net, table = worlds.ring(4)
        for lanes in ((0, 0, 0, 0), (0, 0, 1, 1)):
            for told in (needs(net, table, lanes), order(net, table, lanes), knot(net, table, lanes)):
                self.assertIn(type(told), (list, type(None)))
                for item in told or ():
                    self.assertIs(type(item), tuple)
                    self.assertEqual(len(item), 2)
        self.assertIs(type(fewest(net, table)), tuple)
        for number in fewest(net, table):
            self.assertIs(type(number), int)

    def test_kinds_of_what_a_going_tells(self):
        going = Going(worlds.STREET, worlds.STREET_TABLE, (0, 1, 2, 3), 9)
        for turn in range(8):
            self.assertIs(type(going.send(0, 1 + turn % 3, 2)), int)
            self.assertIs(type(going.beat()), bool)
            self.assertIs(type(going.is_over()), bool)
            self.assertIs(type(going.held()), list)
            self.assertIs(type(going.come()), list)
            self.assertEqual({type(number) for number in going.come()} | {int}, {int})
            for told in going.held():
                self.assertIs(type(told), tuple)
                (tie, number), letter, pieces = told
                self.assertIs(type(told[0]), tuple)
                self.assertEqual({type(part) for part in (tie, number, letter, pieces)}, {int})


if __name__ == "__main__":
    unittest.main()
