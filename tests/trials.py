"""What rows of few keys show, by trying each of them: slow, but plain."""

from functools import lru_cache
from itertools import product

from fieldoffers.keys import all_keys
from fieldoffers.running import state_after, views_of


def rows_up_to(most):
    """Give all rows of at most so many keys, in order."""
    for length in range(most + 1):
        for row in product(all_keys(), repeat=length):
            yield list(row)


def rows_by_views(one, words, sight, most):
    """Give for each view row of at most so many views the rows for which it is seen, in order."""
    found = {}
    for row in rows_up_to(most):
        found.setdefault(tuple(views_of(one, words, sight, row)), []).append(row)
    return found


def steps_of(one, words, sight):
    """Give for each state that can be reached the states and views behind the keys."""
    return steps_for(one, tuple(words), sight)


@lru_cache(maxsize=None)
def steps_for(one, order, sight):
    words = list(order)
    rows = {state_after(one, words, []): []}
    steps = {}
    while len(steps) < len(rows):
        state = list(rows)[len(steps)]
        steps[state] = []
        for key in all_keys():
            row = rows[state] + [key]
            behind = state_after(one, words, row)
            rows.setdefault(behind, row)
            steps[state].append((behind, views_of(one, words, sight, row)[-1]))
    return steps


def count_from_the_last(one, words, sight, views):
    """Count the rows for which views are seen, from the last view to the first."""
    steps = steps_of(one, words, sight)
    many = dict.fromkeys(steps, 1)
    for view in reversed(views):
        many = {
            state: sum(many[behind] for behind, seen in steps[state] if seen == view)
            for state in steps
        }
    return many[state_after(one, words, [])]


def first_unlike_row(one, other, words, sight, most):
    """Give the first row of at most so many keys that shows unlike views, or None."""
    for row in rows_up_to(most):
        if views_of(one, words, sight, row) != views_of(other, words, sight, row):
            return row
    return None


def length_to_tell(one, other, words, sight):
    """Give the length of the shortest rows that tell two ways apart, or None.

    All states of both ways begin in one block. In each round states part whose
    keys show unlike views or lead to unlike blocks: round n parts the states that
    rows of n keys tell apart, and a round that parts none is the last.
    """
    steps = {}
    for name, way in enumerate([one, other]):
        for state, behind in steps_of(way, words, sight).items():
            steps[name, state] = [((name, after), view) for after, view in behind]
    blocks = dict.fromkeys(steps, 0)
    first = ("", "", 0, tuple(words), "")
    for length in range(1, len(steps) + 1):
        numbers = {}
        parted = {}
        for state in steps:
            look = tuple((view, blocks[after]) for after, view in steps[state])
            parted[state] = numbers.setdefault((blocks[state], look), len(numbers))
        if parted[0, first] != parted[1, first]:
            return length
        if len(numbers) == len(set(blocks.values())):
            return None
        blocks = parted
    raise AssertionError("the rounds have an end")


def text_place(text):
    """Give the place of a text among all texts, by [1]."""
    return (len(text), text)


def view_row_place(views):
    """Give the place of a view row among all of its sight, by [7]."""
    members = [(view,) if isinstance(view, str) else view for view in views]
    return (len(views), [[text_place(text) for text in view] for view in members])


def state_place(state):
    """Give the place of a state among all: by its items, from left to right."""
    text, begun, quiet, order, put = state
    words = [text_place(word) for word in order]
    return (text_place(text), text_place(begun), quiet, words, text_place(put))


def first_view_row(view_rows):
    """Give the first of the shortest of some view rows as a list, or None for none."""
    if not view_rows:
        return None
    return list(min(view_rows, key=view_row_place))


def states_of(one, words, rows):
    """Give the ascending list of the states behind some rows, without repeats."""
    return sorted({state_after(one, words, row) for row in rows}, key=state_place)


def blocks_of(ways, words, sight):
    """Give for each place of a way and each of its states a block: one for states alike.

    As in length_to_tell, rounds part the states until one parts none; here of any
    number of ways.
    """
    steps = {}
    for place, one in enumerate(ways):
        for state, behind in steps_of(one, words, sight).items():
            steps[place, state] = [((place, after), view) for after, view in behind]
    blocks = dict.fromkeys(steps, 0)
    many = 0
    while len(set(blocks.values())) > many:
        many = len(set(blocks.values()))
        numbers = {}
        blocks = {
            node: numbers.setdefault(
                (blocks[node], tuple((view, blocks[after]) for after, view in steps[node])),
                len(numbers))
            for node in steps
        }
    return blocks


def parts_behind(left, steps, at):
    """Give for each view behind a key, its place given, the ways left then, with their states.

    Ways left are a tuple of tuples: the place of a way, and its state.
    """
    parts = {}
    for place, state in left:
        behind, view = steps[place][state][at]
        parts.setdefault(view, []).append((place, behind))
    return {view: tuple(part) for view, part in parts.items()}


class Finding:
    """The keys needed from all ways left, in all states that they can come to, by rounds.

    Round 0 finds what is left where all are alike, round n where some key leads to
    nothing but what the rounds ahead of it found.
    """

    def __init__(self, family, words, sight):
        self.steps = [steps_of(one, words, sight) for one in family]
        self.blocks = blocks_of(family, words, sight)
        first = ("", "", 0, tuple(words), "")
        self.start = tuple((place, first) for place in range(len(family)))
        self.parts = {}
        waiting = [self.start]
        while waiting:
            left = waiting.pop()
            if left not in self.parts:
                self.parts[left] = [
                    parts_behind(left, self.steps, at) for at in range(len(all_keys()))
                ]
                waiting.extend(part for parts in self.parts[left] for part in parts.values())
        self.needed = {left: 0 for left in self.parts if self.is_found(left)}
        self.rounds()

    def is_found(self, left):
        return len({self.blocks[node] for node in left}) == 1

    def rounds(self):
        waiting = [left for left in self.parts if left not in self.needed]
        many = 0
        while waiting:
            many += 1
            found = [left for left in waiting if self.first_key(left) is not None]
            assert found, "there always is such a number"
            self.needed.update(dict.fromkeys(found, many))
            waiting = [left for left in waiting if left not in self.needed]

    def first_key(self, left):
        """Give the first key behind which all is found by fewer keys than what is left, or None."""
        most = self.needed.get(left, len(self.parts))
        for key, parts in zip(all_keys(), self.parts[left]):
            if all(self.needed.get(part, most) < most for part in parts.values()):
                return key
        return None


def first_parting_row(family, words, sight):
    """Give the first of the shortest rows by which ways that are not alike are told apart.

    Goes through the states of all ways at once, with the pairs not told apart yet.
    """
    steps = [steps_of(one, words, sight) for one in family]
    blocks = blocks_of(family, words, sight)
    first = ("", "", 0, tuple(words), "")
    unlike = tuple(
        (one, other) for one in range(len(family)) for other in range(one)
        if blocks[one, first] != blocks[other, first]
    )
    rows = {((first,) * len(family), unlike): []}
    for states, pairs in iter_growing(rows):
        row = rows[states, pairs]
        if not pairs:
            return row
        for at, key in enumerate(all_keys()):
            behind = [steps[place][state][at] for place, state in enumerate(states)]
            left = tuple(
                (one, other) for one, other in pairs if behind[one][1] == behind[other][1])
            rows.setdefault((tuple(after for after, view in behind), left), [*row, key])
    return None


def iter_growing(rows):
    """Give the keys of a dict in their order, those too that are put in meanwhile."""
    names = list(rows)
    at = 0
    while at < len(names):
        yield names[at]
        at += 1
        if at == len(names):
            names = list(rows)


def count_same_rows(one, other, words, sight, length):
    """Count the rows of a length for which two ways show the same, from the first key on."""
    mine = steps_of(one, words, sight)
    its = steps_of(other, words, sight)
    first = ("", "", 0, tuple(words), "")
    many = {(first, first): 1}
    for _ in range(length):
        behind = {}
        for (state, twin), rows in many.items():
            for (after, view), (twin_after, twin_view) in zip(mine[state], its[twin]):
                if view == twin_view:
                    behind[after, twin_after] = behind.get((after, twin_after), 0) + rows
        many = behind
    return sum(many.values())


def fewest_keys_from(one, words, state):
    """Give for each text that can be put in from a state the fewest keys for it."""
    steps = steps_of(one, words, 1)
    fewest = {}
    met = {state}
    newest = [state]
    many = 0
    while newest:
        many += 1
        behind = [step for known in newest for step in steps[known]]
        for _, put in behind:
            fewest.setdefault(put, many)
        newest = [after for after in dict.fromkeys(after for after, _ in behind) if after not in met]
        met.update(newest)
    fewest.pop("", None)
    return fewest


def states_by_view(steps, states):
    """Give for each view that can be seen next the states behind it."""
    behind = {}
    for state in states:
        for after, view in steps[state]:
            behind.setdefault(view, set()).add(after)
    return {view: frozenset(after) for view, after in behind.items()}


def first_views_of_one(one, other, words, sight):
    """Give the first of the shortest view rows seen of the one way alone, or None.

    Goes through the sets of all states in which the two ways may be.
    """
    mine = steps_of(one, words, sight)
    its = steps_of(other, words, sight)
    first = frozenset([("", "", 0, tuple(words), "")])
    rows = {(first, first): []}
    for states, others in iter_growing(rows):
        row = rows[states, others]
        shown = states_by_view(mine, states)
        answered = states_by_view(its, others)
        for view in sorted(shown, key=lambda view: view_row_place([view])):
            if view not in answered:
                return [*row, view]
            rows.setdefault((shown[view], answered[view]), [*row, view])
    return None
