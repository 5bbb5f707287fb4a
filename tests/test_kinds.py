"""[8] and kinds.py: a way from two of its own states."""

import unittest
from itertools import combinations

from fieldoffers.kinds import alike_groups, count_kinds
from fieldoffers.reaching import count_states, row_to
from fieldoffers.running import views_of
from fieldoffers.ways import all_ways
from tests.samples import P, Q, W, way
from tests.trials import blocks_of, rows_up_to, state_place, steps_of

LISTS = [["b"], ["ab"], ["ab", "aa"], ["aba", "ab"], W, ["aab", "ab", "b"]]
DRAWN = [
    P, Q, way(back="both"), way(back="offer", learn=1), way("short", 1, "blank", "next", "both", 1),
    way("common", 1, "tab", "next"), way("first", 1, "always", "next", "letter", 1),
]


def group_with(groups, state):
    """Give the group in which a state stands; fail unless it is just one."""
    found = [group for group in groups if state in group]
    assert len(found) == 1, state
    return found[0]


class Groups(unittest.TestCase):
    def test_by_rounds(self):
        for one in DRAWN:
            for words in LISTS:
                for sight in [0, 1]:
                    blocks = blocks_of([one], words, sight)
                    groups = {}
                    for _, state in blocks:
                        groups.setdefault(blocks[0, state], []).append(state)
                    inner = [sorted(group, key=state_place) for group in groups.values()]
                    expected = sorted(inner, key=lambda group: [state_place(s) for s in group])
                    with self.subTest(way=one, words=words, sight=sight):
                        self.assertEqual(alike_groups(one, words, sight), expected)
                        self.assertEqual(count_kinds(one, words, sight), len(expected))

    def test_each_state_that_can_be_reached_once(self):
        for one in all_ways()[::7]:
            for sight in [0, 1]:
                groups = alike_groups(one, W, sight)
                states = [state for group in groups for state in group]
                with self.subTest(way=one, sight=sight):
                    self.assertEqual(len(states), len(set(states)))
                    self.assertEqual(len(states), count_states(one, W))
                    self.assertEqual(set(states), set(steps_of(one, W, sight)))
                    self.assertEqual(count_kinds(one, W, sight), len(groups))

    def test_few_keys_part_or_do_not(self):
        rows = list(rows_up_to(3))
        for one in [P, way(back="both"), way(again="next")]:
            for sight in [0, 1]:
                groups = alike_groups(one, ["ab", "aa"], sight)
                first = [group[0] for group in groups] + [group[-1] for group in groups[:4]]
                shown = {state: self.shown(one, ["ab", "aa"], sight, state, rows) for state in first}
                for state, twin in combinations(dict.fromkeys(first), 2):
                    with self.subTest(way=one, sight=sight, state=state, twin=twin):
                        if group_with(groups, state) is group_with(groups, twin):
                            self.assertEqual(shown[state], shown[twin])
                        elif sight == 0:
                            # Behind three keys there is something else to see.
                            self.assertNotEqual(shown[state], shown[twin])

    def shown(self, one, words, sight, state, rows):
        ahead = row_to(one, words, state)
        return [views_of(one, words, sight, ahead + row)[len(ahead):] for row in rows]

    def test_states_from_which_nothing_parts(self):
        order = ("ab",)
        for sight in [0, 1]:
            groups = alike_groups(P, ["ab"], sight)
            # What was put in is seen behind its key alone.
            empty = group_with(groups, ("", "", 0, order, ""))
            self.assertEqual(len(empty), 31)
            self.assertEqual(empty[:3], [
                ("", "", 0, order, ""), ("", "", 0, order, "a"), ("", "", 0, order, "b")])
            self.assertIs(groups[0], empty)
            # Nothing longer than "ab" is offered, quiet or not; what was begun is no help.
            self.assertEqual(
                group_with(groups, ("ab", "", 0, order, "")),
                [("ab", "", 0, order, ""), ("ab", "a", 1, order, "")])
            self.assertEqual(count_kinds(P, ["ab"], sight), 31)

    def test_states_that_show_unlike_views(self):
        order = ("ab", "aa")
        for sight in [0, 1]:
            groups = alike_groups(way(again="next"), ["ab", "aa"], sight)
            # Tab goes on to the next word only from what tab began.
            typed = group_with(groups, ("ab", "", 0, order, ""))
            taken = group_with(groups, ("ab", "a", 1, order, ""))
            self.assertEqual((typed, taken), (
                [("ab", "", 0, order, "")], [("ab", "a", 1, order, "")]))
            groups = alike_groups(way(back="both"), ["ab"], sight)
            # Quiet counts where something would be offered, and nowhere else.
            self.assertEqual(
                group_with(groups, ("a", "", 1, ("ab",), "")), [("a", "", 1, ("ab",), "")])
            self.assertEqual(
                group_with(groups, ("b", "", 1, ("ab",), "")),
                [("b", "", 0, ("ab",), ""), ("b", "", 1, ("ab",), "")])

    def test_orders(self):
        # Both words have one letter more than "a": which of them comes first matters.
        self.assertEqual(count_kinds(way(learn=1), ["ab", "aa"], 0), 62)
        # Words that begin unlike do not compete, and the common beginning has no order.
        self.assertEqual(count_kinds(way(learn=1), ["ab", "ba"], 0), 31)
        self.assertEqual(count_kinds(way("common", learn=1), ["ab", "aa"], 0), 31)
        self.assertEqual(count_states(way(learn=1), ["ab", "ba"]), 124)

    def test_kinds_of_values(self):
        groups = alike_groups(P, W, 0)
        self.assertIs(type(groups), list)
        self.assertTrue(all(type(group) is list for group in groups))
        self.assertTrue(all(type(state) is tuple for group in groups for state in group))
        self.assertIs(type(count_kinds(P, W, 0)), int)

    def test_shorter_texts_come_first(self):
        firsts = [group[0][0] for group in alike_groups(P, ["b"], 0)]
        self.assertEqual(firsts[:8], ["", "a", "b", "aa", "ab", "ba", "bb", "aaa"])


if __name__ == "__main__":
    unittest.main()
