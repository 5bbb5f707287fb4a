"""The states that rows of keys lead to, of any length."""

from fieldoffers.errors import NotFound
from fieldoffers.keys import KEYS
from fieldoffers.states import check_state, first_state, press
from fieldoffers.ways import check_way
from fieldoffers.words import check_list


def rows_to_states(way, words):
    """Return a dict that gives each state that can be reached its row.

    States come in the order of their rows, and the keys in theirs: so the row
    by which a state is met first is the first of the shortest rows to it.
    """
    start = first_state(words)
    rows = {start: []}
    newest = [start]
    while len(newest) > 0:
        found = []
        for state in newest:
            for key in KEYS:
                behind = press(way, state, key)
                if behind not in rows:
                    rows[behind] = rows[state] + [key]
                    found.append(behind)
        newest = found
    return rows


def count_states(way, words):
    """Return how many states all rows lead to."""
    check_way(way)
    check_list(words)
    return len(rows_to_states(way, words))


def row_to(way, words, state):
    """Return the first of the shortest rows to a state."""
    check_way(way)
    check_list(words)
    check_state(state, words)
    rows = rows_to_states(way, words)
    if state not in rows:
        raise NotFound("no row leads to this state")
    return rows[state]


def idle_keys(way, words, state):
    """Return the list of the keys, in order, that leave a state as it is."""
    # This raises what there is to raise: what it returns is not needed.
    row_to(way, words, state)
    return [key for key in KEYS if press(way, state, key) == state]
