"""The first row of keys that comes to an end of some kind."""

from fieldoffers.keys import KEYS


def first_row_to_end(start, ahead):
    """Return the first of the shortest rows of keys that come to an end, or None.

    A function gives what is ahead of a position, for the keys in order: True for
    an end, None if there is nothing to go on from, or else another position.
    Positions come in the order of their rows, and the keys in theirs: so the first
    position and key behind which there is an end give the first row. Where there
    are only so many positions, rows of any length are looked at.
    """
    rows = {start: []}
    newest = [start]
    while len(newest) > 0:
        found = []
        for position in newest:
            for key, behind in zip(KEYS, ahead(position)):
                if behind is True:
                    return [*rows[position], key]
                if behind is not None and behind not in rows:
                    rows[behind] = [*rows[position], key]
                    found.append(behind)
        newest = found
    return None
