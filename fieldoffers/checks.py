"""Checks of the arguments that many functions take first, in their order."""

from fieldoffers.states import check_sight
from fieldoffers.ways import check_family, check_way
from fieldoffers.words import check_list


def check_field(way, words, sight):
    """Raise the exception of the first that is not valid: a way, a list of words, a sight."""
    check_way(way)
    check_list(words)
    check_sight(sight)


def check_pair(one, other, words, sight):
    """Raise the exception of the first that is not valid: two ways, a list of words, a sight."""
    check_way(one)
    check_field(other, words, sight)


def check_several(family, words, sight):
    """Raise the exception of the first that is not valid: a family, a list of words, a sight."""
    check_family(family)
    check_list(words)
    check_sight(sight)
