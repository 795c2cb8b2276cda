"""Histories: steps from state to state that are undone and redone."""

from highestsky.errors import NothingLeft


class History:
    """The history of an office, or of a draft; `state` is its present state."""

    def __init__(self, state):
        self.state = state
        self._past = []
        self._coming = []

    def step(self, state):
        """Makes a step to a state."""
        self._past.append(self.state)
        self._coming = []
        self.state = state

    def back(self):
        """Takes the last step back."""
        if not self._past:
            raise NothingLeft()
        self._coming.append(self.state)
        self.state = self._past.pop()

    def forth(self):
        """Does the step again that was taken back last."""
        if not self._coming:
            raise NothingLeft()
        self._past.append(self.state)
        self.state = self._coming.pop()

    def counts(self):
        """The pair of the numbers of steps that can be taken back and done again."""
        return (len(self._past), len(self._coming))

    def twin(self):
        """An independent history in the same state."""
        other = History(self.state)
        other._past = list(self._past)
        other._coming = list(self._coming)
        return other
