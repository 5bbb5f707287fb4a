"""One row of keys, chosen ahead, by which several ways are all told apart."""

from fieldoffers.blocks import parts_behind
from fieldoffers.keys import KEYS
from fieldoffers.rows import first_row_to_end


def groups_behind(blocks, groups, at):
    """Return the tuple of the groups behind a key, True if all are parted, None if they can't be.

    A group holds the blocks of two or more ways that are not alike, but with which
    the same views were seen. Where two such ways have come to be alike, no key
    will part them any more.
    """
    parts = [part for group in groups for part in parts_behind(blocks, group, at)]
    for part in parts:
        if len(set(part)) < len(part):
            return None
    behind = tuple(sorted([tuple(sorted(part)) for part in parts if len(part) > 1]))
    if len(behind) == 0:
        return True
    return behind


def groups_ahead(blocks, groups):
    """Return what groups_behind tells of some groups, for the keys in order."""
    return [groups_behind(blocks, groups, at) for at in range(len(KEYS))]


def first_parting_row(blocks):
    """Return the first of the shortest rows that parts all ways not alike, or None."""
    starts = tuple(sorted(set(blocks.starts)))
    if len(starts) == 1:
        return []
    return first_row_to_end((starts,), lambda groups: groups_ahead(blocks, groups))
