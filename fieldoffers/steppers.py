"""The steps of a way from state to state, with what is seen of each."""

from fieldoffers.keys import KEYS
from fieldoffers.states import press, view_of


class Stepper:
    """A way in one sight, whose steps are worked out once and kept."""

    def __init__(self, way, sight):
        self.way = way
        self.sight = sight
        self.known = {}

    def step(self, state, key):
        """Return a tuple: the state behind a key, and the view seen of it."""
        behind = press(self.way, state, key)
        return (behind, view_of(self.way, behind, self.sight))

    def steps(self, state):
        """Return the tuple of the steps from a state, for the keys in order."""
        if state not in self.known:
            self.known[state] = tuple([self.step(state, key) for key in KEYS])
        return self.known[state]
