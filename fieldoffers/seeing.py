"""Ways read from views alone: the rows of keys for which they are seen."""

from fieldoffers.checks import check_field, check_several
from fieldoffers.errors import NotFound
from fieldoffers.keys import KEYS
from fieldoffers.orders import state_rank
from fieldoffers.states import first_state
from fieldoffers.steppers import Stepper
from fieldoffers.views import check_views


def counts_behind(stepper, counts, view):
    """Return how many rows lead to each state, one key on, behind which a view is seen."""
    behind = {}
    for state in counts:
        for after, seen in stepper.steps(state):
            if seen == view:
                behind[after] = behind.get(after, 0) + counts[state]
    return behind


def counted(way, words, sight, views):
    """Return a dict: the states that rows showing such views lead to, and how many do."""
    stepper = Stepper(way, sight)
    counts = {first_state(words): 1}
    for view in views:
        counts = counts_behind(stepper, counts, view)
    return counts


def rows_behind(stepper, rows, view):
    """Return the first row to each state, one key on, behind which a view is seen.

    The states given come in the order of their rows, and the keys in theirs: so
    the row by which a state is met first is its first one, and the states
    returned come in the order of their rows, too.
    """
    behind = {}
    for state in rows:
        for key, (after, seen) in zip(KEYS, stepper.steps(state)):
            if seen == view and after not in behind:
                behind[after] = [*rows[state], key]
    return behind


def check_seen(way, words, sight, views):
    """Raise the exception of the first argument that is not valid."""
    check_field(way, words, sight)
    check_views(views, sight)


def can_show(way, words, sight, views):
    """Tell whether just these views are seen for some row."""
    check_seen(way, words, sight, views)
    return len(counted(way, words, sight, views)) > 0


def showers(family, words, sight, views):
    """Return the ascending list of the places of the ways that can show these views."""
    check_several(family, words, sight)
    check_views(views, sight)
    return [place for place, way in enumerate(family) if can_show(way, words, sight, views)]


def first_row(way, words, sight, views):
    """Return the first of the rows for which just these views are seen."""
    check_seen(way, words, sight, views)
    stepper = Stepper(way, sight)
    rows = {first_state(words): []}
    for view in views:
        rows = rows_behind(stepper, rows, view)
    if len(rows) == 0:
        raise NotFound("these views are seen for no row")
    return list(rows.values())[0]


def states_behind(way, words, sight, views):
    """Return the ascending list of the states to which rows showing these views lead."""
    check_seen(way, words, sight, views)
    return sorted(counted(way, words, sight, views), key=state_rank)


def count_rows(way, words, sight, views):
    """Return how many rows there are for which just these views are seen."""
    check_seen(way, words, sight, views)
    return sum(counted(way, words, sight, views).values())
