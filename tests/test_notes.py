"""[16] written, read and BadText with the row that is told."""

import random
import unittest

from tests import slow, worlds
from wormways.errors import BadNet, BadTable, BadText
from wormways.notes import read, written

PAIR_TEXT = "houses 2\ntie 0 1\ntie 1 0\nto - 0\nto 1 -"
STREET_ROWS = ["houses 4", "tie 0 1", "tie 1 2", "tie 2 3", "tie 1 0", "tie 2 1", "tie 3 2", "to - 0 0 0", "to 3 - 1 1",
               "to 4 4 - 2", "to 5 5 5 -"]


def with_row(at, row):
    """The street's text with another row at one place."""
    return "\n".join([*STREET_ROWS[:at], row, *STREET_ROWS[at + 1:]])


class Written(unittest.TestCase):
    def test_row_by_row(self):
        self.assertEqual(written(worlds.PAIR, worlds.PAIR_TABLE), PAIR_TEXT)
        self.assertEqual(written(worlds.STREET, worlds.STREET_TABLE), "\n".join(STREET_ROWS))

    def test_no_tie_and_no_way(self):
        self.assertEqual(written((2, ()), worlds.empty_table(2)), "houses 2\nto - -\nto - -")
        self.assertEqual(written((3, ((2, 0),)), worlds.empty_table(3)),
                         "houses 3\ntie 2 0\nto - - -\nto - - -\nto - - -")
        for many in range(2, 9):
            text = written((many, ()), worlds.empty_table(many))
            self.assertEqual(text.split("\n"), [f"houses {many}"] + ["to" + " -" * many] * many)

    def test_numbers_of_two_figures(self):
        rows = written(worlds.FULL, worlds.FULL_TABLE).split("\n")
        self.assertEqual(len(rows), 1 + 24 + 8)
        self.assertEqual(rows[:2] + rows[24:27], ["houses 8", "tie 3 6", "tie 2 5", "to - 2 2 2 2 2 2 15",
                                                  "to 12 - 12 3 3 3 3 3"])

    def test_ties_stand_as_they_are_numbered(self):
        for net in ((2, ((0, 1), (1, 0))), (2, ((1, 0), (0, 1)))):
            rows = written(net, worlds.empty_table(2)).split("\n")
            self.assertEqual(rows[1:3], [f"tie {begin} {end}" for begin, end in net[1]])


class ReadAgain(unittest.TestCase):
    def same(self, net, table):
        text = written(net, table)
        self.assertIs(type(text), str)
        self.assertIsNone(slow.wrong_row(text))
        told = read(text)
        # repr tells tuples, lists, numbers and truths apart.
        self.assertEqual(repr(told), repr((net, table)))
        self.assertEqual(written(*told), text)

    def test_what_is_written_is_read_to_the_same(self):
        self.same(worlds.PAIR, worlds.PAIR_TABLE)
        self.same(worlds.CROWDED, worlds.CROWDED_TABLE)
        self.same(worlds.FULL, worlds.FULL_TABLE)
        for many in range(2, 9):
            self.same((many, ()), worlds.empty_table(many))
            self.same(*worlds.ring(many))
        for net, table, lanes in worlds.worlds(161, 300):
            self.same(net, table)

    def test_a_text_is_read(self):
        self.assertEqual(read(PAIR_TEXT), (worlds.PAIR, worlds.PAIR_TABLE))
        self.assertEqual(read("\n".join(STREET_ROWS)), (worlds.STREET, worlds.STREET_TABLE))
        self.assertEqual(read("houses 3\ntie 2 0\nto - - -\nto - - -\nto 0 - -"),
                         ((3, ((2, 0),)), ((-1, -1, -1), (-1, -1, -1), (0, -1, -1))))


class Wrong(unittest.TestCase):
    def refused(self, row, text):
        self.assertEqual(slow.wrong_row(text), row, text)
        with self.assertRaises(BadText) as caught:
            read(text)
        self.assertIs(type(caught.exception), BadText)
        self.assertEqual(caught.exception.row, row, text)
        self.assertIs(type(caught.exception.row), int)

    def refused_in(self, at, *rows):
        for row in rows:
            self.refused(at, with_row(at, row))

    def test_an_empty_text_and_empty_rows(self):
        self.refused(0, "")
        self.refused(0, "\n")
        self.refused(0, "\n" + PAIR_TEXT)
        for at in range(11):
            self.refused_in(at, "")
            self.refused(at, "\n".join([*STREET_ROWS[:at], "", *STREET_ROWS[at:]]))

    def test_a_line_end_too_many(self):
        self.refused(5, PAIR_TEXT + "\n")
        self.refused(5, PAIR_TEXT + "\n\n")
        self.refused(1, "houses 2\n\nto - -\nto - -")
        self.refused(1, "houses 2\n")

    def test_blanks_too_many(self):
        for at, row in enumerate(STREET_ROWS):
            self.refused_in(at, " " + row, row + " ", row.replace(" ", "  "), row.replace(" ", "  ", 1), " ", "  ")
        self.refused_in(7, "to ", "to  ", "to - 0 0  0", "to  - 0 0 0")

    def test_other_first_words(self):
        for at, row in enumerate(STREET_ROWS):
            rest = row.partition(" ")[2]
            for word in ("house", "Houses", "HOUSES", "ties", "Tie", "too", "t", "TO", "-", "0", "", "houses:", "tie-"):
                self.refused_in(at, f"{word} {rest}", word)

    def test_houses_not_ahead(self):
        for at in range(1, 11):
            self.refused(0, "\n".join([*STREET_ROWS[1:at + 1], STREET_ROWS[0], *STREET_ROWS[at + 1:]]))
        self.refused(0, "\n".join(STREET_ROWS[1:]))
        self.refused(0, "tie 0 1")
        self.refused(0, "to - -")

    def test_houses_again(self):
        for at in range(1, 12):
            for row in ("houses 4", "houses 5", "houses"):
                self.refused(at, "\n".join([*STREET_ROWS[:at], row, *STREET_ROWS[at:]]))
        self.refused(1, "houses 2\nhouses 2")

    def test_a_tie_behind_a_to(self):
        for at in range(8, 12):
            self.refused(at, "\n".join([*STREET_ROWS[:at], "tie 0 2", *STREET_ROWS[at:]]))
        self.refused(2, "houses 2\nto - -\ntie 0 1\nto - -")
        self.refused(3, "houses 2\nto - -\nto - -\ntie 0 1\ntie 1 0")

    def test_other_counts_of_words(self):
        self.refused_in(0, "houses", "houses 4 4", "houses 4 4 4")
        self.refused_in(1, "tie", "tie 0", "tie 0 1 2", "tie 0 1 2 3")
        self.refused_in(6, "tie", "tie 3", "tie 3 2 1", "tie 3 2 -")

    def test_words_that_are_no_numbers(self):
        for word in ("00", "01", "09", "000", "100", "999", "004", "1234567890" * 30, "+1", "-1", "-0", "--", "1-", "1.0",
                     "1e1", "0x1", "1_0", "one", "a", "A1", "1a", "x", "", "~", "!", "*", "1,", "(1)", "True", "None",
                     "tie", "to"):
            self.refused_in(0, f"houses {word}")
            self.refused_in(2, f"tie {word} 2", f"tie 1 {word}", f"tie {word} {word}")
            self.refused_in(8, f"to {word} - 1 1", f"to 3 {word} 1 1", f"to 3 - 1 {word}", f"to {word}")

    def test_the_sign_for_no_way_stands_behind_a_to_only(self):
        self.refused_in(0, "houses -")
        self.refused_in(1, "tie - 1", "tie 0 -")
        self.refused_in(3, "tie - -")

    def test_other_signs(self):
        for sign in [chr(code) for code in range(32, 127) if chr(code) not in "0123456789% "]:
            self.refused_in(0, f"houses {sign}", f"houses 4{sign}", f"{sign}houses 4", f"houses{sign}4")
            self.refused_in(4, f"tie {sign} 0", f"tie 1 {sign}0", f"tie 1 0{sign}")
            self.refused_in(10, f"to 5 5 5 {sign}-", f"to 5 5 5{sign} -", f"to{sign} 5 5 5 -")

    def test_signs_that_texts_do_not_have(self):
        for sign in ("\u00b2", "\u0663", "\t", "\r", "\u00a0", "\x0b", "\x0c", "\x1e", "\u2028"):
            self.refused_in(0, f"houses {sign}", f"houses{sign}4", f"houses 4{sign}")
            self.refused_in(8, f"to {sign} - 1 1", f"to{sign}3 - 1 1", f"to 3 - 1 1{sign}")

    def test_the_first_of_two_wrong_rows(self):
        for first in range(11):
            for second in range(first + 1, 11):
                for one, other in (("", "tie x"), ("to x", ""), ("tie 0 01", "houses 4 4"), ("what", "what")):
                    rows = list(STREET_ROWS)
                    rows[first], rows[second] = one, other
                    self.refused(first, "\n".join(rows))
        self.refused(1, "houses 2\ntie 0 01\nto - -\ntie 0 1")
        self.refused(2, "houses 2\nto - -\ntie 0 01\nhouses 2")

    def test_a_wrong_row_is_told_ahead_of_a_net_and_a_table_that_are_none(self):
        self.refused(2, "houses 1\nto -\nto x")
        self.refused(3, "houses 99\ntie 9 9\nto\nhouses 2")
        self.refused(2, "houses 2\nto 5\n")
        self.refused(3, "houses 2\nto\nto 99 99 99\ntie 0 1")

    def test_at_random(self):
        chance = random.Random(162)
        right = wrong = other = 0
        for net, table, lanes in worlds.worlds(163, 1500, sizes=(2, 3, 4), most=6):
            text = changed(chance, written(net, table))
            row = slow.wrong_row(text)
            if row is not None:
                wrong += 1
                self.refused(row, text)
                continue
            try:
                told = read(text)
            except (BadNet, BadTable):
                other += 1
            else:
                right += 1
                self.assertEqual(written(*told), text)
        self.assertGreater(min(right, wrong, other), 100)


def changed(chance, text):
    """The text with a sign, a word or a row changed, left out, doubled or exchanged."""
    for turn in range(chance.randint(0, 2)):
        between = chance.choice(("", " ", "\n"))
        parts = text.split(between) if between else list(text)
        if not parts:
            return text
        at, to = chance.randrange(len(parts)), chance.randrange(len(parts))
        way = chance.randrange(4)
        if way == 0:
            del parts[at]
        elif way == 1:
            parts.insert(to, parts[at])
        elif way == 2:
            parts[at], parts[to] = parts[to], parts[at]
        else:
            parts[at] = chance.choice(("0", "1", "2", "-", "tie", "to", "houses", "10", " ", "\n", ""))
        text = between.join(parts)
    return text


class NoNetAndNoTable(unittest.TestCase):
    def no_net(self, text):
        self.assertIsNone(slow.wrong_row(text))
        with self.assertRaises(BadNet) as caught:
            read(text)
        self.assertIs(type(caught.exception), BadNet)

    def no_table(self, place, text):
        self.assertIsNone(slow.wrong_row(text))
        with self.assertRaises(BadTable) as caught:
            read(text)
        self.assertIs(type(caught.exception), BadTable)
        self.assertEqual(caught.exception.place, place)

    def test_counts_of_houses(self):
        for many in (0, 1, 9, 10, 20, 99):
            self.no_net("\n".join([f"houses {many}"] + ["to" + " -" * many] * many))
            self.no_net(f"houses {many}")

    def test_ties_that_are_none(self):
        for row in ("tie 0 0", "tie 3 3", "tie 0 4", "tie 4 0", "tie 99 0", "tie 0 99", "tie 0 1", "tie 3 2"):
            self.no_net("\n".join([*STREET_ROWS[:3], row, *STREET_ROWS[3:]]))

    def test_a_tie_more_than_24(self):
        rows = [f"tie {begin} {end}" for begin, end in worlds.pairs_of_houses(8)]
        to = ["to" + " -" * 8] * 8
        self.assertEqual(len(read("\n".join(["houses 8", *rows[:24], *to]))[0][1]), 24)
        self.no_net("\n".join(["houses 8", *rows[:25], *to]))
        self.no_net("\n".join(["houses 8", *rows, *to]))

    def test_a_net_that_is_none_is_told_ahead_of_a_table_that_is_none(self):
        self.no_net("houses 2\ntie 0 0\nto")
        self.no_net("houses 1")
        self.no_net("houses 9\nto 99")

    def test_a_house_too_many_or_too_few(self):
        self.no_table((0, 0), "houses 2")
        self.no_table((0, 0), "houses 2\nto - -")
        self.no_table((0, 0), "houses 2\nto - -\nto - -\nto - -")
        self.no_table((0, 0), "houses 2\nto - -\nto 5\nto - -")
        for at in range(7, 11):
            self.no_table((0, 0), "\n".join(STREET_ROWS[:at]))
            self.no_table((0, 0), "\n".join([*STREET_ROWS, STREET_ROWS[at]]))

    def test_a_goal_too_many_or_too_few(self):
        for at, house in ((7, 0), (8, 1), (9, 2), (10, 3)):
            row = STREET_ROWS[at]
            for wrong in ("to", "to -", row[:-2], row + " -", row + " 0", row + " 99" * 20):
                self.no_table((house, 0), with_row(at, wrong))

    def test_numbers_that_there_are_not(self):
        for house in range(4):
            for goal in range(4):
                for number in (6, 9, 10, 24, 99):
                    words = STREET_ROWS[7 + house].split(" ")
                    words[1 + goal] = str(number)
                    self.no_table((house, goal), with_row(7 + house, " ".join(words)))
        self.no_table((0, 1), "houses 2\nto - 0\nto - -")

    def test_ties_of_other_houses_and_ways_that_do_not_come(self):
        self.no_table((0, 0), with_row(7, "to 0 0 0 0"))
        self.no_table((1, 2), with_row(8, "to 3 - 0 1"))
        self.no_table((0, 3), with_row(9, "to 4 4 - 4"))
        self.no_table((0, 2), with_row(8, "to 3 - - 1"))

    def test_a_wrong_number_is_told_ahead_of_a_way_that_does_not_come(self):
        self.no_table((3, 3), "\n".join([*STREET_ROWS[:8], "to 3 - - 1", STREET_ROWS[9], "to 5 5 5 5"]))


if __name__ == "__main__":
    unittest.main()
