"""The shell: lines of words that tell what to do with live tables held by names."""

from ticklay.arrangements import squares
from ticklay.cheapest import cheapest
from ticklay.errors import DuplicateName, InvalidLine, InvalidName, UnknownTable
from ticklay.live import Live
from ticklay.nests import core
from ticklay.texts import parse_table
from ticklay.words import integer_of, integers_of

MOST_SIGNS = 8
DONE = "ok"
NONE = "none"

# How many words each line has, by its first word.
COUNTS = {
    "open": 3, "close": 2, "put": 4, "strike": 4, "undo": 2, "redo": 2, "show": 2, "ring": 2,
    "squares": 2, "core": 2, "cost": 4, "tables": 1,
}


def words_of(line):
    """Return the list of the words of any object that is a line."""
    if not isinstance(line, str) or "\n" in line:
        raise InvalidLine("this is no string without line feeds")
    words = line.split(" ")
    if "" in words or COUNTS.get(words[0]) != len(words):
        raise InvalidLine("there is no such line")
    return words


def is_name(word):
    """Return whether a word is a name."""
    return 1 <= len(word) <= MOST_SIGNS and all(["a" <= sign <= "z" for sign in word])


def words_or_none(words):
    """Return words as an answer."""
    if words == []:
        return NONE
    return " ".join(words)


def put_tick(live, words):
    """Put a tick; words that are no integers are no indexes, either."""
    live.put(integer_of(words[0]), integer_of(words[1]))
    return DONE


def strike_tick(live, words):
    """Strike a tick; words that are no integers are no indexes, either."""
    live.strike(integer_of(words[0]), integer_of(words[1]))
    return DONE


def take_back(live, words):
    """Take back the last put or strike that stands."""
    live.undo()
    return DONE


def do_again(live, words):
    """Do the put or strike again that was taken back last."""
    live.redo()
    return DONE


def shown(live, words):
    """Return the table as a word."""
    return "/".join(live.table)


def whether_ringed(live, words):
    """Return whether there is a ring."""
    return "no" if live.ring is None else "yes"


def count_of_squares(live, words):
    """Return how many squares there are."""
    return str(len(squares(live.table)))


def columns_of_core(live, words):
    """Return the columns of the core."""
    return words_or_none([str(column) for column in core(live.table)])


def least_cost(live, words):
    """Return the least cost; words that are no integers are no prices and no fines, either."""
    return str(cheapest(live.table, integers_of(words[0]), integers_of(words[1]))[0])


ACTIONS = {
    "put": put_tick, "strike": strike_tick, "undo": take_back, "redo": do_again, "show": shown,
    "ring": whether_ringed, "squares": count_of_squares, "core": columns_of_core, "cost": least_cost,
}


class Shell:
    """Live tables held by names."""

    def __init__(self):
        self._held = {}

    def run(self, line):
        """Execute a line and return the answer."""
        words = words_of(line)
        if words[0] == "tables":
            return words_or_none(sorted(self._held))
        if words[0] == "open":
            return self._hold(words[1], words[2])
        if words[1] not in self._held:
            raise UnknownTable("no table has this name")
        if words[0] == "close":
            del self._held[words[1]]
            return DONE
        action = ACTIONS[words[0]]
        return action(self._held[words[1]], words[2:])

    def _hold(self, name, rows):
        """Hold a new live table by a name."""
        if not is_name(name):
            raise InvalidName("this is no name")
        if name in self._held:
            raise DuplicateName("a table has this name already")
        self._held[name] = Live(parse_table(rows.replace("/", "\n")))
        return DONE
