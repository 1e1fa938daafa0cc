"""Tables written as texts."""

from ticklay.errors import ParseError
from ticklay.tables import MOST, check_table, is_row


def format_table(table):
    """Return the text of a table: its rows, separated by line feeds."""
    check_table(table)
    return "\n".join(table)


def parse_table(text):
    """Return the table that a text tells."""
    if not isinstance(text, str):
        raise ParseError(0)
    lines = text.split("\n")
    for at, line in enumerate(lines):
        if at == MOST or not is_row(line) or len(line) != len(lines[0]):
            raise ParseError(at)
    return tuple(lines)
