"""States that change, to be taken back and done again."""

from ticklay.errors import NothingToRedo, NothingToUndo


class Track:
    """A state, those that stood ahead of each change that stands, and those that were taken back.

    A state is a string, or a tuple that holds only integers, strings and such tuples, so that
    nobody changes it and it need not be copied.
    """

    def __init__(self, state):
        self.state = state
        self.behind = []
        self.ahead = []

    def step(self, state):
        """Change to a state; what was taken back cannot be done again then."""
        self.behind.append(self.state)
        self.ahead = []
        self.state = state

    def undo(self):
        """Take back the last change that stands."""
        if self.behind == []:
            raise NothingToUndo("no call can be taken back")
        self.ahead.append(self.state)
        self.state = self.behind.pop()

    def redo(self):
        """Do the change again that was taken back last."""
        if self.ahead == []:
            raise NothingToRedo("no call can be done again")
        self.behind.append(self.state)
        self.state = self.ahead.pop()

    def copy(self):
        """Return an independent track in the same state."""
        other = Track(self.state)
        other.behind = list(self.behind)
        other.ahead = list(self.ahead)
        return other
