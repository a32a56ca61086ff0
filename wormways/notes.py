"""Nets and tables as texts."""

from wormways.checks import NO_TIE, check_net, check_table
from wormways.errors import BadText

NO_TIE_WORD = "-"

# Which rows may stand behind a row, by their first words; the first row stands behind none.
BEHIND = {"": ("houses",), "houses": ("tie", "to"), "tie": ("tie", "to"), "to": ("to",)}

# How many words rows have; a `to` has any count.
COUNTS = {"houses": 2, "tie": 3}


def written(net, table):
    """The text of a net and a table."""
    check_net(net)
    check_table(net, table)
    many, ties = net
    rows = [f"houses {many}"]
    for begin, end in ties:
        rows.append(f"tie {begin} {end}")
    for row in table:
        rows.append(" ".join(["to", *[word_of(tie) for tie in row]]))
    return "\n".join(rows)


def word_of(tie):
    """The word for a tie, or for none, in a `to`."""
    return NO_TIE_WORD if tie == NO_TIE else str(tie)


def read(text):
    """The net and the table of a text."""
    rows = [row.split(" ") for row in text.split("\n")]
    ahead = ""
    for at, words in enumerate(rows):
        if words[0] not in BEHIND[ahead] or not is_right(words):
            raise BadText(at)
        ahead = words[0]
    ties = [numbers_of(words) for words in rows if words[0] == "tie"]
    net = (numbers_of(rows[0])[0], tuple(ties))
    table = tuple([numbers_of(words) for words in rows if words[0] == "to"])
    check_net(net)
    check_table(net, table)
    return (net, table)


def is_right(words):
    """Whether behind the first word of a row stand as many right words as are to."""
    first, *told = words
    if first == "to":
        return all([word == NO_TIE_WORD or is_figures(word) for word in told])
    return len(words) == COUNTS[first] and all([is_figures(word) for word in told])


def is_figures(word):
    """Whether a word is a number of one or two figures without a needless 0."""
    if not word.isascii() or not word.isdigit() or len(word) > 2:
        return False
    return len(word) == 1 or not word.startswith("0")


def numbers_of(words):
    """The numbers that a row tells behind its first word."""
    return tuple([NO_TIE if word == NO_TIE_WORD else int(word) for word in words[1:]])
