"""Sheets: texts of a table and a claim about it."""

from ticklay.arrangements import find_arrangement, is_arrangement
from ticklay.checks import are_amounts
from ticklay.choices import check_amounts, is_paper
from ticklay.errors import HasRing, ParseError
from ticklay.going import find_paper
from ticklay.rings import is_ring, ring
from ticklay.texts import format_table, parse_table
from ticklay.words import integers_of

NOTHING = "-"

# How many words stand behind the first word of each claim.
COUNTS = {"ring": 2, "arrangement": 2, "paper": 4}


def is_right(text):
    """Return whether the claim of a sheet is right."""
    if not isinstance(text, str):
        raise ParseError(0)
    # A text of one line has no rows, and a table of no rows is wrong in line 0.
    rows, _, claim = text.rpartition("\n")
    table = parse_table(rows)
    words = claim.split(" ")
    lots = [lot_of(word) for word in words[1:]]
    if COUNTS.get(words[0]) != len(lots) or None in lots:
        raise ParseError(len(table))
    return holds(table, words[0], lots)


def lot_of(word):
    """Return the tuple of integers that a word of a claim tells, or None if it tells none."""
    if word == NOTHING:
        return ()
    return integers_of(word)


def holds(table, kind, lots):
    """Return whether a claim of a kind, with the integers of its words, is right for a table."""
    if kind == "ring":
        return is_ring(table, (lots[0], lots[1]))
    if kind == "arrangement":
        return is_arrangement(table, (lots[0], lots[1]))
    prices, fines, choice, weights = lots
    if not are_amounts(prices, len(table[0])) or not are_amounts(fines, len(table)):
        return False
    return is_paper(table, prices, fines, (choice, weights))


def ring_sheet(table):
    """Return any right sheet of a table with a ring or an arrangement."""
    found = ring(table)
    if found is None:
        return sheet_of(table, "arrangement", find_arrangement(table))
    return sheet_of(table, "ring", found)


def paper_sheet(table, prices, fines):
    """Return any right sheet of a table with a paper."""
    check_amounts(table, prices, fines)
    paper = find_paper(table, prices, fines)
    if paper is None:
        raise HasRing("the table has a ring")
    return sheet_of(table, "paper", (prices, fines, paper[0], paper[1]))


def sheet_of(table, kind, lots):
    """Return the sheet of a table with a claim of a kind."""
    claim = " ".join([kind] + [written(lot) for lot in lots])
    return format_table(table) + "\n" + claim


def written(lot):
    """Return the word of a claim that tells a tuple of integers."""
    if lot == ():
        return NOTHING
    return ",".join([str(number) for number in lot])
