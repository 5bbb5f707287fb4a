"""A hidden way of a family found by chosen keys, with as few as can be."""

from fieldoffers.blocks import Blocks
from fieldoffers.checks import check_several
from fieldoffers.errors import NotFound
from fieldoffers.keys import KEYS, check_row
from fieldoffers.orders import sorted_views
from fieldoffers.parting import first_parting_row
from fieldoffers.running import views_of
from fieldoffers.searching import Search

FINDING_WORDS = 2
# How many ways a family has at most, in the sight 0 and in the sight 1.
FINDING_WAYS = (3, 2)


def check_finding(family, words, sight):
    """Raise the exception of the first argument that is not valid, or NotFound for too many."""
    check_several(family, words, sight)
    if len(words) > FINDING_WORDS:
        raise NotFound("this is told for lists of 1 or 2 words alone")
    if len(family) > FINDING_WAYS[sight]:
        raise NotFound("this is told for 3 ways in the sight 0, and for 2 in the sight 1")


def held_of(blocks):
    """Return what a search holds of some blocks: each of them once, in order."""
    return tuple(sorted(set(blocks)))


def keys_needed(family, words, sight):
    """Return the number of keys needed to find a hidden way of a family."""
    check_finding(family, words, sight)
    blocks = Blocks(family, words, sight)
    return Search(blocks).needed(held_of(blocks.starts))


def plan_for(search, left, sight):
    """Return a plan with as few keys as can be for the ways that are left.

    What is left is a dict: the places of the ways, ascending, and their blocks.
    """
    held = held_of(list(left.values()))
    if len(held) == 1:
        return ("left", list(left))
    at = search.first_key(held)
    parts = {}
    for place in left:
        block, view = search.blocks.moves[left[place]][at]
        parts.setdefault(view, {})[place] = block
    views = sorted_views(list(parts), sight)
    return ("press", KEYS[at], [(seen, plan_for(search, parts[seen], sight)) for seen in views])


def finding_plan(family, words, sight):
    """Return a plan by which a hidden way of a family is found with as few keys as can be."""
    check_finding(family, words, sight)
    blocks = Blocks(family, words, sight)
    left = {place: block for place, block in enumerate(blocks.starts)}
    return plan_for(Search(blocks), left, sight)


def parting_row(family, words, sight):
    """Return the first of the shortest rows that tells apart all ways that are not alike."""
    check_finding(family, words, sight)
    row = first_parting_row(Blocks(family, words, sight))
    if row is None:
        raise NotFound("no row tells apart all ways that are not alike")
    return row


def groups(family, words, sight, row):
    """Return the ascending list of the groups of places of ways that show the same for a row."""
    check_several(family, words, sight)
    check_row(row)
    shown = {}
    for place, way in enumerate(family):
        views = tuple(views_of(way, words, sight, row))
        shown.setdefault(views, []).append(place)
    return list(shown.values())
