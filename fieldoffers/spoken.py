"""Two ways told apart by views alone, whatever keys are pressed."""

from fieldoffers.checks import check_pair, check_several
from fieldoffers.errors import NotFound
from fieldoffers.grouping import grouped
from fieldoffers.machines import Machine
from fieldoffers.orders import sorted_views
from fieldoffers.profiles import profile_of

SPOKEN_WORDS = 2


def of_either(shown, answered):
    """Return the list of the views that are shown or answered, each once."""
    return [*shown, *[view for view in answered if view not in shown]]


def first_views_alone(mine, its, views_of_pair):
    """Return a tuple: a view row seen of one machine alone, and which; None if there is none.

    Pairs of the states in which the two may be come in the order of their view
    rows. A function gives the views to look at from a pair: where they are all
    views, and in order, what is returned is the first of the shortest view rows.
    """
    start = (1, 1)
    rows = {start: []}
    newest = [start]
    while len(newest) > 0:
        found = []
        for pair in newest:
            shown = mine.views_ahead(pair[0])
            answered = its.views_ahead(pair[1])
            for view in views_of_pair(shown, answered):
                if view not in answered:
                    return ([*rows[pair], view], 0)
                if view not in shown:
                    return ([*rows[pair], view], 1)
                behind = (shown[view], answered[view])
                if behind not in rows:
                    rows[behind] = [*rows[pair], view]
                    found.append(behind)
        newest = found
    return None


def check_few_words(words):
    """Raise NotFound if a list has more words than this file answers for."""
    if len(words) > SPOKEN_WORDS:
        raise NotFound("this is told for lists of 1 or 2 words alone")


def views_alone(one, other, words, sight, views_of_pair):
    """Return what first_views_alone tells of two ways."""
    mine = profile_of(one, words)
    its = profile_of(other, words)
    if mine == its:
        return None
    return first_views_alone(
        Machine(mine, words, sight), Machine(its, words, sight), views_of_pair)


def is_within(one, other, words, sight):
    """Tell whether each view row that is seen of the one way is seen of the other one."""
    check_pair(one, other, words, sight)
    check_few_words(words)
    return views_alone(one, other, words, sight, lambda shown, answered: shown) is None


def telling_views(one, other, words, sight):
    """Return the first of the shortest view rows seen of just one way, and of which one."""
    check_pair(one, other, words, sight)
    check_few_words(words)
    told = views_alone(
        one, other, words, sight,
        lambda shown, answered: sorted_views(of_either(shown, answered), sight),
    )
    if told is None:
        raise NotFound("the same view rows are seen of the two ways")
    return told


def spoken_classes(family, words, sight):
    """Return the ascending list of the groups of ways of which the same views are seen."""
    check_several(family, words, sight)
    check_few_words(words)
    profiles = [profile_of(way, words) for way in family]
    # Ways with one profile are alike: the first of them stands for all.
    firsts = [profiles.index(profile) for profile in profiles]
    places = sorted(set(firsts))
    machines = [Machine(profiles[place], words, sight) for place in places]
    groups = grouped(
        len(places),
        lambda one, other: first_views_alone(machines[one], machines[other], of_either) is None,
    )
    return [
        [place for place, first in enumerate(firsts) if places.index(first) in group]
        for group in groups
    ]
