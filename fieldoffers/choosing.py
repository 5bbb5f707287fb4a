"""Keys chosen by what is known so far, and rows that show the same of two ways."""

from fieldoffers.blocks import Blocks
from fieldoffers.checks import check_pair, check_several
from fieldoffers.errors import BadNumber, NotFound
from fieldoffers.keys import KEYS, ROW_KEYS
from fieldoffers.reading import bar_of
from fieldoffers.states import first_state, press, view_of, walk
from fieldoffers.views import check_record
from fieldoffers.ways import is_integer


def states_left(family, words, sight, record):
    """Return the list of the ways that made a record, each with its state behind the row."""
    row, views = record
    return [
        (way, walk(way, first_state(words), row)[-1])
        for way in family if bar_of(way, words, sight, record) is None
    ]


def greatest_group(left, sight, key):
    """Return how many ways the greatest group has into which a key parts some ways."""
    many = {}
    for way, state in left:
        view = view_of(way, press(way, state, key), sight)
        many[view] = many.get(view, 0) + 1
    return max(many.values())


def best_key(family, words, sight, record):
    """Return the first key behind which the greatest group of the ways left is least."""
    check_several(family, words, sight)
    check_record(record, sight)
    left = states_left(family, words, sight, record)
    if len(left) == 0:
        raise NotFound("no way made the record")
    # Of several keys that part alike well, min returns the first.
    return min(KEYS, key=lambda key: greatest_group(left, sight, key))


def check_length(length):
    """Raise BadNumber if a value is not the length of a row."""
    if not is_integer(length) or not 0 <= length <= ROW_KEYS:
        raise BadNumber("a length is an integer from 0 to 40")


def same_pairs_behind(blocks, pair):
    """Return the list of the pairs of blocks behind the keys that show the same views."""
    one, other = pair
    if one == other:
        # All rows show the same from here: the pair may as well stay as it is.
        return [pair] * len(KEYS)
    return [
        (step[0], twin_step[0])
        for step, twin_step in zip(blocks.moves[one], blocks.moves[other])
        if step[1] == twin_step[1]
    ]


def same_pairs_reached(blocks, start):
    """Return a dict: the pairs to which rows of the same views lead, and those behind each."""
    reached = {start: same_pairs_behind(blocks, start)}
    newest = [start]
    while len(newest) > 0:
        behind = [pair for known in newest for pair in reached[known]]
        newest = []
        for pair in behind:
            if pair not in reached:
                reached[pair] = same_pairs_behind(blocks, pair)
                newest.append(pair)
    return reached


def count_same(one, other, words, sight, length):
    """Return how many rows of a length there are for which two ways show the same views."""
    check_pair(one, other, words, sight)
    check_length(length)
    blocks = Blocks([one, other], words, sight)
    start = (blocks.starts[0], blocks.starts[1])
    reached = same_pairs_reached(blocks, start)
    places = {pair: place for place, pair in enumerate(reached)}
    leads = [[places[pair] for pair in reached[known]] for known in reached]
    many = [1] * len(leads)
    for _ in range(length):
        many = [sum([many[place] for place in lead]) for lead in leads]
    return many[places[start]]
