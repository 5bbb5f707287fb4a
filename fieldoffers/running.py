"""Rows of keys pressed by one way, from its first state."""

from fieldoffers.keys import check_row
from fieldoffers.states import check_sight, first_state, view_of, walk
from fieldoffers.ways import check_way
from fieldoffers.words import check_list


def views_of(way, words, sight, row):
    """Return the list of the views behind the keys of a row."""
    check_way(way)
    check_list(words)
    check_sight(sight)
    check_row(row)
    states = walk(way, first_state(words), row)
    return [view_of(way, state, sight) for state in states[1:]]


def states_along(way, words, row):
    """Return the list of the state ahead of a row and those behind its keys."""
    check_way(way)
    check_list(words)
    check_row(row)
    return walk(way, first_state(words), row)


def state_after(way, words, row):
    """Return the state behind a row."""
    return states_along(way, words, row)[-1]


def put_in(way, words, row):
    """Return the list of the texts that a row puts in, in turn."""
    return [put for put in views_of(way, words, 1, row) if put != ""]
