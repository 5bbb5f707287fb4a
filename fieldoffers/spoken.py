"""Two ways told apart by views alone, whatever keys are pressed."""

from fieldoffers.checks import check_pair, check_several
from fieldoffers.errors import NotFound
from fieldoffers.grouping import grouped
from fieldoffers.orders import sorted_views, views_rank
from fieldoffers.states import first_state
from fieldoffers.steppers import Stepper

SPOKEN_WORDS = 2


def states_by_view(stepper, states):
    """Return a dict: each view that can be seen next, and the states behind it.

    The states behind a view stand in a tuple, sorted: the same states make the
    same tuple, by whatever keys they are reached.
    """
    behind = {}
    for state in states:
        for after, view in stepper.steps(state):
            if view not in behind:
                behind[view] = {}
            behind[view][after] = True
    return {view: tuple(sorted(behind[view])) for view in behind}


def first_views_outside(mine, its, words):
    """Return the first of the shortest view rows seen of the one stepper alone, or None.

    Pairs of the states in which the two may be come in the order of their view
    rows, and the views in theirs: so the first view that only the one shows ends
    the first such view row.
    """
    start = ((first_state(words),), (first_state(words),))
    rows = {start: []}
    newest = [start]
    while len(newest) > 0:
        found = []
        for pair in newest:
            shown = states_by_view(mine, pair[0])
            answered = states_by_view(its, pair[1])
            for view in sorted_views(list(shown), mine.sight):
                if view not in answered:
                    return [*rows[pair], view]
                behind = (shown[view], answered[view])
                if behind not in rows:
                    rows[behind] = [*rows[pair], view]
                    found.append(behind)
        newest = found
    return None


def check_few_words(words):
    """Raise NotFound if a list has more words than this file answers for."""
    if len(words) > SPOKEN_WORDS:
        raise NotFound("this is told for lists of 1 or 2 words alone")


def is_within(one, other, words, sight):
    """Tell whether each view row that is seen of the one way is seen of the other one."""
    check_pair(one, other, words, sight)
    check_few_words(words)
    return first_views_outside(Stepper(one, sight), Stepper(other, sight), words) is None


def telling_views(one, other, words, sight):
    """Return the first of the shortest view rows seen of just one way, and of which one."""
    check_pair(one, other, words, sight)
    check_few_words(words)
    mine = Stepper(one, sight)
    its = Stepper(other, sight)
    alone = [(first_views_outside(mine, its, words), 0), (first_views_outside(its, mine, words), 1)]
    found = [(views, which) for views, which in alone if views is not None]
    if len(found) == 0:
        raise NotFound("the same view rows are seen of the two ways")
    return min(found, key=lambda told: views_rank(told[0], sight))


def spoken_alike(mine, its, words):
    """Tell whether the same view rows can be seen of two steppers."""
    if first_views_outside(mine, its, words) is not None:
        return False
    return first_views_outside(its, mine, words) is None


def spoken_classes(family, words, sight):
    """Return the ascending list of the groups of ways of which the same views are seen."""
    check_several(family, words, sight)
    check_few_words(words)
    steppers = [Stepper(way, sight) for way in family]
    return grouped(
        len(family), lambda one, other: spoken_alike(steppers[one], steppers[other], words)
    )
