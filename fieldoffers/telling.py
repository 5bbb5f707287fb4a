"""Two ways told apart by the first row of keys that does it, or found alike."""

from fieldoffers.checks import check_pair, check_several
from fieldoffers.cores import Cores, cores_by_way
from fieldoffers.errors import NotFound
from fieldoffers.grouping import grouped
from fieldoffers.profiles import profile_of
from fieldoffers.rows import first_row_to_end
from fieldoffers.states import check_sight
from fieldoffers.ways import check_way
from fieldoffers.words import small_lists


def starts_of(mine, its, words):
    """Return the pair of the cores in which two ways begin."""
    return (mine.start(words), its.start(words))


def pairs_behind(mine, its, pair):
    """Return, for the keys in order, the pairs behind them, or True for unlike views."""
    return [
        True if step[1] != twin_step[1] else (step[0], twin_step[0])
        for step, twin_step in zip(mine.steps(pair[0]), its.steps(pair[1]))
    ]


def first_row_from(mine, its, start):
    """Return the first of the shortest rows that tells two ways apart from a pair, or None."""
    if mine.way == its.way and start[0] == start[1]:
        return None
    return first_row_to_end(start, lambda pair: pairs_behind(mine, its, pair))


def first_telling_row(mine, its, words):
    """Return the first of the shortest rows that tells two ways apart, or None."""
    return first_row_from(mine, its, starts_of(mine, its, words))


def row_between(one, other, words, sight):
    """Return the first of the shortest rows that tells two ways apart, or None."""
    return first_telling_row(Cores(one, sight), Cores(other, sight), words)


def same(one, other, words, sight):
    """Tell whether two ways are alike for a list of words and a sight."""
    check_pair(one, other, words, sight)
    return row_between(one, other, words, sight) is None


def telling_row(one, other, words, sight):
    """Return the first of the shortest rows behind whose last key unlike views are seen."""
    check_pair(one, other, words, sight)
    row = row_between(one, other, words, sight)
    if row is None:
        raise NotFound("the two ways are alike")
    return row


def least_list(one, other, sight):
    """Return the first list of 1 or 2 words for which two ways are not alike, or None."""
    check_way(one)
    check_way(other)
    check_sight(sight)
    if one == other:
        return None
    for words in small_lists():
        # No way knows one letter from the other: with "a" and "b" swapped, a list
        # that begins with "b" is one that came before, and was found alike.
        if not words[0].startswith("b") and profile_of(one, words) != profile_of(other, words):
            return words
    return None


def classes(family, words, sight):
    """Return the ascending list of the groups of places of ways that are alike."""
    check_several(family, words, sight)
    cores = cores_by_way(family, sight)
    return grouped(
        len(family),
        lambda one, other: first_telling_row(
            cores[family[one]], cores[family[other]], words) is None,
    )


def length_between(mine, its, words):
    """Return the length of the shortest rows that tell two ways apart, or None."""
    row = first_telling_row(mine, its, words)
    if row is None:
        return None
    return len(row)


def telling_table(family, words, sight):
    """Return, for each two places, the length of the shortest telling rows, or None."""
    check_several(family, words, sight)
    cores = cores_by_way(family, sight)
    ways = list(cores)
    lengths = {}
    for many, one in enumerate(ways):
        for other in ways[:many]:
            length = length_between(cores[one], cores[other], words)
            lengths[(one, other)] = length
            lengths[(other, one)] = length
    # A way with itself has no length there: get tells None of it.
    return [[lengths.get((one, other)) for other in family] for one in family]
