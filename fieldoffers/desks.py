"""A desk, at which keys are pressed one by one and taken off again."""

from fieldoffers.checks import check_field
from fieldoffers.errors import BadKeys, BadNumber, NotFound
from fieldoffers.keys import is_key
from fieldoffers.states import first_state, view_of, walk

DESK_KEYS = 100


class Desk:
    """A field of one way and one list of words, seen in one sight."""

    def __init__(self, way, words, sight):
        check_field(way, words, sight)
        self._way = way
        self._sight = sight
        self._row = []
        # The state ahead of all keys, and those behind each.
        self._states = [first_state(words)]

    def press(self, key):
        """Press a key, and return the view of it."""
        if not is_key(key):
            raise BadKeys("this is no key")
        if len(self._row) == DESK_KEYS:
            raise BadNumber("at most 100 keys are pressed")
        self._states.append(walk(self._way, self._states[-1], [key])[-1])
        self._row.append(key)
        return self.view()

    def state(self):
        """Return the state behind the keys."""
        return self._states[-1]

    def view(self):
        """Return the view of now."""
        return view_of(self._way, self._states[-1], self._sight)

    def pressed(self):
        """Return the list of the keys."""
        return list(self._row)

    def taken_off(self):
        """Take the last key off, and return it."""
        if len(self._row) == 0:
            raise NotFound("there is no key to take off")
        self._states.pop()
        return self._row.pop()

    def __len__(self):
        return len(self._row)
