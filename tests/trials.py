"""What rows of few keys show, by trying each of them: slow, but plain."""

from functools import lru_cache
from itertools import product

from fieldoffers.keys import all_keys
from fieldoffers.running import state_after, views_of


def rows_up_to(most):
    """Give all rows of at most so many keys, in order."""
    for length in range(most + 1):
        for row in product(all_keys(), repeat=length):
            yield list(row)


def rows_by_views(one, words, sight, most):
    """Give for each view row of at most so many views the rows for which it is seen, in order."""
    found = {}
    for row in rows_up_to(most):
        found.setdefault(tuple(views_of(one, words, sight, row)), []).append(row)
    return found


def steps_of(one, words, sight):
    """Give for each state that can be reached the states and views behind the keys."""
    return steps_for(one, tuple(words), sight)


@lru_cache(maxsize=None)
def steps_for(one, order, sight):
    words = list(order)
    rows = {state_after(one, words, []): []}
    steps = {}
    while len(steps) < len(rows):
        state = list(rows)[len(steps)]
        steps[state] = []
        for key in all_keys():
            row = rows[state] + [key]
            behind = state_after(one, words, row)
            rows.setdefault(behind, row)
            steps[state].append((behind, views_of(one, words, sight, row)[-1]))
    return steps


def count_from_the_last(one, words, sight, views):
    """Count the rows for which views are seen, from the last view to the first."""
    steps = steps_of(one, words, sight)
    many = dict.fromkeys(steps, 1)
    for view in reversed(views):
        many = {
            state: sum(many[behind] for behind, seen in steps[state] if seen == view)
            for state in steps
        }
    return many[state_after(one, words, [])]


def first_unlike_row(one, other, words, sight, most):
    """Give the first row of at most so many keys that shows unlike views, or None."""
    for row in rows_up_to(most):
        if views_of(one, words, sight, row) != views_of(other, words, sight, row):
            return row
    return None


def length_to_tell(one, other, words, sight):
    """Give the length of the shortest rows that tell two ways apart, or None.

    All states of both ways begin in one block. In each round states part whose
    keys show unlike views or lead to unlike blocks: round n parts the states that
    rows of n keys tell apart, and a round that parts none is the last.
    """
    steps = {}
    for name, way in enumerate([one, other]):
        for state, behind in steps_of(way, words, sight).items():
            steps[name, state] = [((name, after), view) for after, view in behind]
    blocks = dict.fromkeys(steps, 0)
    first = ("", "", 0, tuple(words), "")
    for length in range(1, len(steps) + 1):
        numbers = {}
        parted = {}
        for state in steps:
            look = tuple((view, blocks[after]) for after, view in steps[state])
            parted[state] = numbers.setdefault((blocks[state], look), len(numbers))
        if parted[0, first] != parted[1, first]:
            return length
        if len(numbers) == len(set(blocks.values())):
            return None
        blocks = parted
    raise AssertionError("the rounds have an end")


def text_place(text):
    """Give the place of a text among all texts, by [1]."""
    return (len(text), text)


def view_row_place(views):
    """Give the place of a view row among all of its sight, by [7]."""
    members = [(view,) if isinstance(view, str) else view for view in views]
    return (len(views), [[text_place(text) for text in view] for view in members])


def state_place(state):
    """Give the place of a state among all: by its items, from left to right."""
    text, begun, quiet, order, put = state
    words = [text_place(word) for word in order]
    return (text_place(text), text_place(begun), quiet, words, text_place(put))


def first_view_row(view_rows):
    """Give the first of the shortest of some view rows as a list, or None for none."""
    if not view_rows:
        return None
    return list(min(view_rows, key=view_row_place))


def states_of(one, words, rows):
    """Give the ascending list of the states behind some rows, without repeats."""
    return sorted({state_after(one, words, row) for row in rows}, key=state_place)
