"""States with the steps between them, which can be taken back and made again."""

from numbertypes.errors import NothingLeft


class Timeline:
    """A state, the states ahead of it, and those that were taken back. The states themselves are never changed."""

    def __init__(self, state):
        self.state = state
        self._undone = []
        self._done = []

    def move(self, state):
        """Makes a step to a new state."""
        self._done.append(self.state)
        self._undone = []
        self.state = state

    def undo(self):
        """Takes the last step back."""
        if len(self._done) == 0:
            raise NothingLeft()
        self._undone.append(self.state)
        self.state = self._done.pop()

    def redo(self):
        """Makes the step again that was taken back last."""
        if len(self._undone) == 0:
            raise NothingLeft()
        self._done.append(self.state)
        self.state = self._undone.pop()

    def history(self):
        """The pair of the numbers of steps that can be taken back and made again."""
        return (len(self._done), len(self._undone))

    def twin(self):
        """An independent timeline with the same state and the same steps."""
        made = Timeline(self.state)
        made._done = list(self._done)
        made._undone = list(self._undone)
        return made
