"""Two ways told apart by the first row of keys that does it, or found alike."""

from fieldoffers.checks import check_pair, check_several
from fieldoffers.errors import NotFound
from fieldoffers.grouping import grouped
from fieldoffers.keys import KEYS
from fieldoffers.states import check_sight, first_state
from fieldoffers.steppers import Stepper
from fieldoffers.ways import check_way
from fieldoffers.words import small_lists


def parting_key(mine, its, pair):
    """Return the first key behind which two steppers show unlike views, or None."""
    state, twin = pair
    for key, step, twin_step in zip(KEYS, mine.steps(state), its.steps(twin)):
        if step[1] != twin_step[1]:
            return key
    return None


def pairs_behind(mine, its, pair):
    """Return the list of the pairs of states that the keys, in order, lead to."""
    state, twin = pair
    return [
        (step[0], twin_step[0])
        for step, twin_step in zip(mine.steps(state), its.steps(twin))
    ]


def first_telling_row(mine, its, words):
    """Return the first of the shortest rows that tells two steppers apart, or None.

    Pairs of states come in the order of their rows, and the keys in theirs: so
    the first pair and key at which unlike views are seen give the first row.
    There are only so many pairs: so rows of any length are looked at.
    """
    start = (first_state(words), first_state(words))
    rows = {start: []}
    newest = [start]
    while len(newest) > 0:
        found = []
        for pair in newest:
            key = parting_key(mine, its, pair)
            if key is not None:
                return [*rows[pair], key]
            for key, behind in zip(KEYS, pairs_behind(mine, its, pair)):
                if behind not in rows:
                    rows[behind] = [*rows[pair], key]
                    found.append(behind)
        newest = found
    return None


def row_between(one, other, words, sight):
    """Return the first of the shortest rows that tells two ways apart, or None."""
    return first_telling_row(Stepper(one, sight), Stepper(other, sight), words)


def same(one, other, words, sight):
    """Tell whether two ways are alike for a list of words and a sight."""
    check_pair(one, other, words, sight)
    return row_between(one, other, words, sight) is None


def telling_row(one, other, words, sight):
    """Return the first of the shortest rows behind whose last key unlike views are seen."""
    check_pair(one, other, words, sight)
    row = row_between(one, other, words, sight)
    if row is None:
        raise NotFound("the two ways are alike")
    return row


def least_list(one, other, sight):
    """Return the first list of 1 or 2 words for which two ways are not alike, or None."""
    check_way(one)
    check_way(other)
    check_sight(sight)
    for words in small_lists():
        if row_between(one, other, words, sight) is not None:
            return words
    return None


def classes(family, words, sight):
    """Return the ascending list of the groups of places of ways that are alike."""
    check_several(family, words, sight)
    steppers = [Stepper(way, sight) for way in family]
    return grouped(
        len(family),
        lambda one, other: first_telling_row(steppers[one], steppers[other], words) is None,
    )


def row_length(mine, its, words):
    """Return the length of the shortest rows that tell two steppers apart, or None."""
    row = first_telling_row(mine, its, words)
    if row is None:
        return None
    return len(row)


def telling_table(family, words, sight):
    """Return, for each two places, the length of the shortest telling rows, or None."""
    check_several(family, words, sight)
    steppers = [Stepper(way, sight) for way in family]
    return [[row_length(mine, its, words) for its in steppers] for mine in steppers]
