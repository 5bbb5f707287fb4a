"""The fewest keys by which a hidden way is found."""

from fieldoffers.blocks import parts_behind
from fieldoffers.keys import KEYS


class Search:
    """A search for a hidden way among ways in known blocks.

    What is left is held as the sorted tuple of the blocks of the ways that are
    left: ways in one block are alike, and the hidden way is found when there is
    one block alone.
    """

    def __init__(self, blocks):
        self.blocks = blocks
        self.behind = {}
        self.known = {}

    def held_behind(self, held, at):
        """Return the list of what can be left behind a key: one for each view seen."""
        return [tuple(sorted(set(part))) for part in parts_behind(self.blocks, held, at)]

    def parts_by_key(self, held):
        """Return, for the keys in order, the lists of what can be left behind them."""
        if held not in self.behind:
            self.behind[held] = [self.held_behind(held, at) for at in range(len(KEYS))]
        return self.behind[held]

    def all_within(self, parts, many):
        """Tell whether so many keys are enough, whatever of some parts is left."""
        for part in parts:
            if not self.is_within(part, many):
                return False
        return True

    def is_begun(self, held, many):
        """Tell whether there is a key with which so many keys are enough."""
        for parts in self.parts_by_key(held):
            if self.all_within(parts, many - 1):
                return True
        return False

    def is_within(self, held, many):
        """Tell whether so many keys are enough to find the way."""
        if len(held) == 1:
            return True
        if many == 0:
            return False
        if (held, many) not in self.known:
            self.known[(held, many)] = self.is_begun(held, many)
        return self.known[(held, many)]

    def needed(self, held):
        """Return the least number of keys that is enough to find the way."""
        many = 0
        while not self.is_within(held, many):
            many += 1
        return many

    def first_key(self, held):
        """Return the place of the first key with which as few keys as can be are enough."""
        many = self.needed(held)
        places = [
            at for at, parts in enumerate(self.parts_by_key(held))
            if self.all_within(parts, many - 1)
        ]
        return places[0]
