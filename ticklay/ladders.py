"""Ladders: roads from a square of a table in a lexical order to a ring."""

from ticklay.arrangements import is_square
from ticklay.errors import InvalidOrder, InvalidSquare
from ticklay.lexical import is_lexical
from ticklay.tables import TICK, part, turned


def ladder(table, order, square):
    """Return the tuple (rows, columns) of the ladder of a square."""
    if not is_lexical(table, order):
        raise InvalidOrder("this is no lexical order of the table")
    ordered = part(table, order[0], order[1])
    if not is_square(ordered, square):
        raise InvalidSquare("this is no square of the table in this order")
    rows, columns = places_of_ladder(ordered, square)
    return tuple([order[0][row] for row in rows]), tuple([order[1][column] for column in columns])


def places_of_ladder(table, square):
    """Return the two lists of rows and of columns of the ladder, told by their places in the order."""
    across = turned(table)
    rows = [square[0], square[1]]
    columns = [square[2], square[3]]
    # The last row and column have not one another in the square, so the ladder goes on.
    while table[rows[-1]][columns[-1]] != TICK:
        column = last_difference(table[rows[-2]], table[rows[-1]])
        row = last_difference(across[columns[-2]], across[columns[-1]])
        rows.append(row)
        columns.append(column)
    return rows, columns


def last_difference(line, other):
    """Return the last place at which two lines, as they are written, differ."""
    return max([at for at in range(len(line)) if line[at] != other[at]])
