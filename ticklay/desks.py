"""Desks: tables with prices and fines that change, over calls and trials within trials."""

from ticklay.changes import with_item, with_tick_put, with_tick_struck
from ticklay.checks import is_amount, is_index
from ticklay.choices import check_amounts
from ticklay.errors import InvalidIndex, InvalidNumber, NoTrial, TooDeep
from ticklay.going import find_paper
from ticklay.tracks import Track

MOST_TRIALS = 4


def with_amount(amounts, at, amount):
    """Return prices, or fines, with another amount at an index."""
    if not is_index(at, len(amounts)):
        raise InvalidIndex("there is no such column, or row")
    if not is_amount(amount):
        raise InvalidNumber("this is no price and no fine")
    return with_item(amounts, at, amount)


class Desk:
    """A table with prices and fines that change."""

    def __init__(self, table, prices, fines):
        check_amounts(table, prices, fines)
        # The first track is that outside of all trials; each open trial has one of its own.
        self._tracks = [Track((table, prices, fines))]

    def __len__(self):
        return len(self._tracks[-1].behind)

    @property
    def table(self):
        """The table as it is now."""
        return self._tracks[-1].state[0]

    @property
    def prices(self):
        """The prices as they are now."""
        return self._tracks[-1].state[1]

    @property
    def fines(self):
        """The fines as they are now."""
        return self._tracks[-1].state[2]

    @property
    def trials(self):
        """How many trials are open."""
        return len(self._tracks) - 1

    def put(self, row, column):
        """Put a tick where none is."""
        self._step(with_tick_put(self.table, row, column), self.prices, self.fines)

    def strike(self, row, column):
        """Make a blank where a tick is."""
        self._step(with_tick_struck(self.table, row, column), self.prices, self.fines)

    def price(self, column, number):
        """Give a column a price."""
        self._step(self.table, with_amount(self.prices, column, number), self.fines)

    def fine(self, row, number):
        """Give a row a fine."""
        self._step(self.table, self.prices, with_amount(self.fines, row, number))

    def _step(self, table, prices, fines):
        """Change to another state by one call."""
        self._tracks[-1].step((table, prices, fines))

    def undo(self):
        """Take back the last call that stands of the trial opened last, or outside of all."""
        self._tracks[-1].undo()

    def redo(self):
        """Do the call again that was taken back there last."""
        self._tracks[-1].redo()

    def begin(self):
        """Open a trial within all that are open."""
        if self.trials == MOST_TRIALS:
            raise TooDeep("no more trials can be open")
        self._tracks.append(Track(self._tracks[-1].state))

    def keep(self):
        """Close the trial opened last; what stands in it is one call from then on."""
        closed = self._closed()
        if closed.behind != []:
            self._tracks[-1].step(closed.state)

    def drop(self):
        """Close the trial opened last; all is as it was ahead of its begin."""
        self._closed()

    def _closed(self):
        """Return the track of the trial opened last, which is closed."""
        if self.trials == 0:
            raise NoTrial("no trial is open")
        return self._tracks.pop()

    def best(self):
        """Return any paper, or None if the table has a ring."""
        return find_paper(self.table, self.prices, self.fines)

    def copy(self):
        """Return an independent desk in the same state."""
        other = Desk(self.table, self.prices, self.fines)
        other._tracks = [track.copy() for track in self._tracks]
        return other
