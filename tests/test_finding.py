"""[9] and finding.py: a hidden way found by chosen keys."""

import unittest
from itertools import combinations, product
from unittest import mock

from fieldoffers.errors import BadWay, NotFound
from fieldoffers.finding import finding_plan, groups, keys_needed, parting_row
from fieldoffers.parting import first_parting_row
from fieldoffers.running import views_of
from fieldoffers.searching import Search
from fieldoffers.telling import classes, same, telling_row
from fieldoffers.ways import all_ways
from tests import trials
from tests.samples import P, Q, W, way

BACKS = [way(), way(back="offer"), way(back="both")]
DRAWN = [
    P, Q, way(back="both"), way(back="offer", learn=1), way("short", 1, "blank", "next", "both", 1),
    way("common", 2, "blank"), way(since=2, accept="always"), way("short", again="next"),
]
LISTS = [["ab"], ["ab", "aa"], ["aba", "ab"]]
TRIPLES = [
    BACKS, [way(), way("short"), way("common")], [way(), way(learn=1), way(again="next")],
    [way(accept="tab"), way(accept="blank"), way(accept="always")],
    [way(), way(since=2), way()], [way("short", learn=1), way("short"), way("common", learn=1)],
    [way(again="next", learn=1), way(again="next"), way("short", again="next", learn=1)],
]


def families():
    """Give small families with a list and a sight in which they are found."""
    for words in LISTS:
        for family in TRIPLES:
            yield family, words, 0
        for one, other in list(combinations(DRAWN, 2))[::2]:
            yield [one, other], words, 0
    for words in LISTS[:2]:
        for one, other in list(combinations(DRAWN, 2))[::3]:
            yield [one, other], words, 1


def plans_in(plan):
    """Give a plan and all plans in it."""
    yield plan
    if plan[0] == "press":
        for _, behind in plan[2]:
            yield from plans_in(behind)


def depth_of(plan):
    if plan[0] == "left":
        return 0
    return 1 + max(depth_of(behind) for _, behind in plan[2])


def followed(plan, one, words, sight):
    """Give the row and the places to which a plan leads if a way is the hidden one."""
    row = []
    while plan[0] == "press":
        _, key, parts = plan
        row.append(key)
        plan = dict(parts)[views_of(one, words, sight, row)[-1]]
    return row, plan[1]


class Found(unittest.TestCase):
    def check(self, family, words, sight, plan, row):
        """Check all answers for a family that one row of keys parts."""
        with self.subTest(family=family, words=words, sight=sight):
            self.assertEqual(keys_needed(family, words, sight), depth_of(plan))
            self.assertEqual(finding_plan(family, words, sight), plan)
            self.assertEqual(parting_row(family, words, sight), row)

    def test_one_way(self):
        for one in all_ways():
            for sight in [0, 1]:
                self.check([one], ["ab", "aa"], sight, ("left", [0]), [])

    def test_ways_that_are_alike(self):
        for sight in [0, 1]:
            self.check([P, P], ["ab", "aba"], sight, ("left", [0, 1]), [])
            self.check([P, Q], ["b"], sight, ("left", [0, 1]), [])
            self.check([way(), way(again="next")], ["ab"], sight, ("left", [0, 1]), [])
        self.check([way(), way("short"), way("common")], ["ab", "aba"], 0, ("left", [0, 1, 2]), [])
        self.check([Q, Q, Q], ["ab", "aba"], 0, ("left", [0, 1, 2]), [])

    def test_two_ways(self):
        plan = ("press", "a", [(("a", "", ""), ("left", [1])), (("a", "b", ""), ("left", [0]))])
        self.check([P, Q], ["ab"], 0, plan, ["a"])
        plan = ("press", "a", [(("a", "", ""), ("left", [0])), (("a", "b", ""), ("left", [1]))])
        self.check([Q, P], ["ab"], 0, plan, ["a"])
        plan = ("press", "a", [("", ("press", "tab", [("", ("press", "blank", [
            ("a", ("left", [1])), ("ab", ("left", [0]))]))]))])
        self.check([P, Q], ["ab"], 1, plan, ["a", "tab", "blank"])

    def test_three_ways(self):
        # Behind "a" and "back" only "offer" keeps the text, so there is more to see
        # of the others; with "a", "a", "back" first, one more key would be needed.
        rest = ("press", "a", [(("a", "b", ""), ("press", "a", [(("aa", "", ""), (
            "press", "back", [(("a", "", ""), ("left", [2])), (("a", "b", ""), ("left", [0]))]))]))])
        plan = ("press", "a", [(("a", "b", ""), ("press", "back", [
            (("", "", ""), rest), (("a", "", ""), ("left", [1]))]))])
        self.check(BACKS, ["ab"], 0, plan, ["a", "back", "a", "a", "back"])

    def test_three_ways_at_once(self):
        family = [way("short"), way("first"), way("common")]
        plan = ("press", "a", [
            (("a", "", ""), ("left", [2])), (("a", "b", ""), ("left", [0])),
            (("a", "ab", ""), ("left", [1])),
        ])
        self.check(family, ["aab", "ab"], 0, plan, ["a"])

    def test_shorter_texts_come_first(self):
        # By [1], "b" comes ahead of "ab", in a view too.
        plan = ("press", "a", [
            (("a", "b", ""), ("left", [0])), (("a", "ab", ""), ("left", [1]))])
        self.check([way("short"), way("first")], ["aab", "ab"], 0, plan, ["a"])
        plan = finding_plan([way(accept="blank"), way(accept="blank", since=2)], ["ba"], 1)
        self.assertEqual(plan, ("press", "b", [("", ("press", "blank", [
            ("b", ("left", [1])), ("ba", ("left", [0]))]))]))

    def test_some_ways_alike(self):
        plan = ("press", "a", [(("a", "", ""), ("left", [1])), (("a", "b", ""), ("left", [0, 2]))])
        self.check([way(), way(since=2), way(again="next")], ["ab"], 0, plan, ["a"])
        self.check([P, Q, P], ["ab"], 0, plan, ["a"])
        plan = ("press", "a", [(("a", "", ""), ("left", [0, 1])), (("a", "b", ""), ("left", [2]))])
        self.check([Q, Q, P], ["ab"], 0, plan, ["a"])

    def test_kinds_of_values(self):
        self.assertIs(type(keys_needed([P, Q], ["ab"], 0)), int)
        self.assertIs(type(parting_row([P, P], ["ab"], 0)), list)
        for plan in plans_in(finding_plan(BACKS, ["ab"], 0)):
            self.assertIs(type(plan), tuple)
            self.assertIs(type(plan[-1]), list)
            if plan[0] == "press":
                self.assertTrue(all(type(part) is tuple for part in plan[2]))


class ByRounds(unittest.TestCase):
    """Against the keys needed from all ways left in all their states."""

    def test_plans(self):
        for family, words, sight in families():
            with self.subTest(family=family, words=words, sight=sight):
                trial = trials.Finding(family, words, sight)
                self.assertEqual(keys_needed(family, words, sight), trial.needed[trial.start])
                self.check_plan(finding_plan(family, words, sight), trial, trial.start)

    def check_plan(self, plan, trial, left):
        if trial.needed[left] == 0:
            self.assertEqual(plan, ("left", [place for place, _ in left]))
            return
        name, key, parts = plan
        self.assertEqual((name, key), ("press", trial.first_key(left)))
        at = ["a", "b", "tab", "blank", "back", "end"].index(key)
        behind = trial.parts[left][at]
        views = [view for view, _ in parts]
        self.assertEqual(views, sorted(behind, key=lambda view: trials.view_row_place([view])))
        for view, inner in parts:
            self.check_plan(inner, trial, behind[view])

    def test_parting_rows(self):
        for family, words, sight in families():
            with self.subTest(family=family, words=words, sight=sight):
                row = trials.first_parting_row(family, words, sight)
                self.assertEqual(parting_row(family, words, sight), row)

    def test_plans_lead_to_the_hidden_way(self):
        for family, words, sight in families():
            plan = finding_plan(family, words, sight)
            most = 0
            for place, one in enumerate(family):
                row, left = followed(plan, one, words, sight)
                most = max(most, len(row))
                self.assertIn(place, left)
                shown = views_of(one, words, sight, row)
                same_shown = [
                    at for at, other in enumerate(family)
                    if views_of(other, words, sight, row) == shown]
                with self.subTest(family=family, words=words, sight=sight, place=place):
                    self.assertEqual(left, same_shown)
            self.assertEqual(most, keys_needed(family, words, sight))


class PartingRow(unittest.TestCase):
    def test_by_trial(self):
        for family, words in product(TRIPLES, LISTS):
            unlike = [
                (one, other) for one, other in combinations(family, 2)
                if not same(one, other, words, 0)
            ]
            row = parting_row(family, words, 0)
            first = next((row for row in trials.rows_up_to(4) if all(
                views_of(one, words, 0, row) != views_of(other, words, 0, row)
                for one, other in unlike)), None)
            with self.subTest(family=family, words=words):
                if first is None:
                    self.assertGreater(len(row), 4)
                else:
                    self.assertEqual(row, first)

    def test_two_ways(self):
        for one, other in combinations(DRAWN, 2):
            for words, sight in product(LISTS, [0, 1]):
                if not same(one, other, words, sight):
                    with self.subTest(one=one, other=other, words=words, sight=sight):
                        self.assertEqual(
                            parting_row([one, other], words, sight),
                            telling_row(one, other, words, sight))


class Many(unittest.TestCase):
    def check_not_found(self, family, words, sight):
        for function in [keys_needed, finding_plan, parting_row]:
            with self.subTest(function=function.__name__, many=len(family), words=words):
                with self.assertRaises(NotFound):
                    function(family, words, sight)

    def test_three_words(self):
        for family in [[P], [P, P], [P, Q]]:
            for sight in [0, 1]:
                self.check_not_found(family, W, sight)
                self.check_not_found(family, ["a", "b", "aa"], sight)

    def test_too_many_ways(self):
        for many in range(4, 9):
            self.check_not_found([P] * many, ["ab"], 0)
            self.check_not_found([P, Q] * (many // 2), ["b"], 0)
        for many in range(3, 9):
            self.check_not_found([P] * many, ["ab"], 1)
        self.check_not_found(BACKS, ["ab"], 1)

    def test_as_many_as_can_be(self):
        self.assertEqual(keys_needed([P] * 3, ["ab"], 0), 0)
        self.assertEqual(keys_needed([P] * 2, ["ab"], 1), 0)

    def test_families_of_0_and_9_ways(self):
        for family in [[], [P] * 9]:
            for function in [keys_needed, finding_plan, parting_row]:
                with self.assertRaises(BadWay):
                    function(family, ["ab"], 0)
            with self.assertRaises(BadWay):
                groups(family, ["ab"], 0, [])


class HandMade:
    """Blocks whose moves are told: for each block its behind and view for each key."""

    def __init__(self, starts, moves):
        self.starts = starts
        idle = {block: [(block, "")] * (6 - len(moves[block])) for block in moves}
        self.moves = {block: moves[block] + idle[block] for block in moves}


class ByHandMadeBlocks(unittest.TestCase):
    """What no family within the limits needs, by blocks that are none of a family's."""

    def test_ways_that_come_to_be_alike(self):
        # Each of the two keys sees one of three ways, and makes the others alike.
        end = {3: [(3, "")], 4: [(4, "")]}
        blocks = HandMade([0, 1, 2], {
            0: [(3, "a"), (4, "")], 1: [(4, ""), (3, "a")], 2: [(4, ""), (4, "")], **end})
        self.assertEqual(Search(blocks).needed((0, 1, 2)), 1)
        self.assertIsNone(first_parting_row(blocks))

    def test_keys_that_depend_on_what_was_seen(self):
        # The first key parts four ways into two pairs. The pairs want unlike keys:
        # the key that parts the one makes the other one alike.
        moves = {
            0: [(4, "")], 1: [(5, "")], 2: [(6, "a")], 3: [(7, "a")],
            4: [(4, ""), (8, "a"), (8, "")], 5: [(5, ""), (8, "b"), (8, "")],
            6: [(6, ""), (8, ""), (8, "a")], 7: [(7, ""), (8, ""), (8, "b")], 8: [(8, "")],
        }
        blocks = HandMade([0, 1, 2, 3], moves)
        self.assertEqual(Search(blocks).needed((0, 1, 2, 3)), 2)
        self.assertIsNone(first_parting_row(blocks))

    def test_a_key_more_where_another_would_make_two_alike(self):
        # The first key parts two of three, but the others become alike by it.
        moves = {
            0: [(3, "a"), (0, "")], 1: [(4, ""), (1, "")], 2: [(4, ""), (5, "b")],
            3: [(3, "")], 4: [(4, "")], 5: [(5, "")],
        }
        blocks = HandMade([0, 1, 2], moves)
        self.assertEqual(first_parting_row(blocks), ["b", "a"])
        self.assertEqual(Search(blocks).needed((0, 1, 2)), 1)


    def test_no_row_is_not_found(self):
        with mock.patch("fieldoffers.finding.first_parting_row", return_value=None):
            with self.assertRaises(NotFound):
                parting_row([P, Q], ["ab"], 0)


class Groups(unittest.TestCase):
    def check(self, family, words, sight, row, expected):
        with self.subTest(family=family, words=words, sight=sight, row=row):
            self.assertEqual(groups(family, words, sight, row), expected)

    def test_the_empty_row(self):
        for many in range(1, 9):
            for sight in [0, 1]:
                self.check(all_ways()[:many], W, sight, [], [list(range(many))])

    def test_both_sights(self):
        self.check(BACKS, ["ab"], 0, ["a"], [[0, 1, 2]])
        self.check(BACKS, ["ab"], 0, ["a", "back"], [[0, 2], [1]])
        self.check(BACKS, ["ab"], 1, ["a", "back"], [[0, 1, 2]])
        self.check(BACKS, ["ab"], 1, ["a", "back", "end"], [[0, 2], [1]])
        self.check(BACKS, ["ab"], 0, ["a", "a", "back"], [[0], [1, 2]])
        self.check(BACKS, ["ab"], 0, ["a", "back", "a", "a", "back"], [[0], [1], [2]])
        self.check([Q, P, Q, P], ["ab"], 0, ["a"], [[0, 2], [1, 3]])

    def test_views_on_the_way_count(self):
        # Behind the last key the same is seen of both.
        self.check([P, Q], ["ab"], 0, ["a", "a"], [[0], [1]])
        self.check([P, Q], ["ab"], 0, ["b", "a", "blank"], [[0, 1]])

    def test_three_words_and_eight_ways(self):
        family = [P, Q, way("short"), way("common"), Q, way(since=2), way(accept="blank"), P]
        self.check(family, W, 0, ["a"], [[0, 2, 3, 6, 7], [1, 4, 5]])
        self.check(family, W, 1, ["a", "blank"], [[0, 1, 2, 3, 4, 5, 7], [6]])
        self.check(family, W, 1, ["a", "b", "end"], [[0, 2, 3, 5, 6, 7], [1, 4]])

    def test_40_keys(self):
        self.check([P, Q], W, 1, ["tab"] * 40, [[0, 1]])
        self.check([P, Q], W, 0, ["tab"] * 39 + ["a"], [[0], [1]])

    def test_classes_are_parted_no_further(self):
        rows = [["a", "tab", "end"], ["a", "b", "tab", "blank"], ["b", "a", "back", "tab", "end"]]
        for words, sight, row in product([W, ["ab", "aa"]], [0, 1], rows):
            parted = groups(DRAWN, words, sight, row)
            self.assertEqual(sorted(place for group in parted for place in group), list(range(8)))
            for alike in classes(DRAWN, words, sight):
                self.assertTrue(any(set(alike) <= set(group) for group in parted))


if __name__ == "__main__":
    unittest.main()
