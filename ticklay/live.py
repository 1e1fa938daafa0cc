"""Live tables: tables that change."""

from ticklay.arrangements import find_arrangement
from ticklay.changes import with_tick_put, with_tick_struck
from ticklay.errors import HasRing
from ticklay.going import go
from ticklay.rings import find_ring
from ticklay.tables import check_table
from ticklay.tracks import Track


class Live:
    """A table that changes by ticks that are put and struck."""

    def __init__(self, table):
        check_table(table)
        self._track = Track(table)

    def __len__(self):
        return len(self._track.behind)

    @property
    def table(self):
        """The table as it is now."""
        return self._track.state

    @property
    def ring(self):
        """Any ring, or None if there is none."""
        return find_ring(self._track.state)

    @property
    def arrangement(self):
        """Any arrangement, or None if there is none."""
        return find_arrangement(self._track.state)

    def put(self, row, column):
        """Put a tick where none is."""
        self._track.step(with_tick_put(self.table, row, column))

    def strike(self, row, column):
        """Make a blank where a tick is."""
        self._track.step(with_tick_struck(self.table, row, column))

    def undo(self):
        """Take back the last put or strike that stands."""
        self._track.undo()

    def redo(self):
        """Do the put or strike again that was taken back last."""
        self._track.redo()

    def paper(self, prices, fines):
        """Return any paper of the table."""
        order = self.arrangement
        if order is None:
            raise HasRing("the table has a ring")
        return go(self.table, prices, fines, order)

    def copy(self):
        """Return an independent live table in the same state."""
        other = Live(self.table)
        other._track = self._track.copy()
        return other
