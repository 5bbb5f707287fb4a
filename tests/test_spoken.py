"""[7] and spoken.py: ways told apart by the view rows that can be seen of them."""

import unittest
from itertools import combinations, permutations, product

from fieldoffers.errors import NotFound
from fieldoffers.running import views_of
from fieldoffers.seeing import can_show
from fieldoffers.spoken import is_within, spoken_classes, telling_views
from fieldoffers.telling import same
from fieldoffers.ways import all_ways
from tests.samples import P, Q, W, way
from tests.trials import (
    first_view_row, first_views_of_one, rows_by_views, view_row_place,
)

DRAWN = [
    P, Q, way(accept="blank"), way(accept="always"), way(back="both"), way(back="offer", learn=1),
    way("short", 1, "blank", "next", "both", 1), way("common", again="next"),
]
LISTS = [["ab"], ["ab", "aa"], ["aba", "ab"], ["bab", "bb"]]

# Rows that press each key, and take, learn and take back offers.
LONG_ROWS = [
    ["a", "a", "end", "a", "tab", "tab", "blank", "b", "back", "b", "blank", "a", "b", "end"],
    ["a", "blank", "b", "a", "back", "tab", "end", "a", "a", "back", "back", "end", "a", "tab"],
    ["b", "a", "b", "blank", "b", "tab", "back", "tab", "tab", "a", "end", "end", "tab", "b"],
]


class Spoken(unittest.TestCase):
    def check(self, one, other, words, sight, told):
        """Check what tells two ways apart, None for nothing, both ways round."""
        with self.subTest(one=one, other=other, words=words, sight=sight):
            if told is None:
                for first, second in [(one, other), (other, one)]:
                    with self.assertRaises(NotFound):
                        telling_views(first, second, words, sight)
                    self.assertIs(is_within(first, second, words, sight), True)
            else:
                views, which = told
                self.assertEqual(telling_views(one, other, words, sight), told)
                self.assertEqual(telling_views(other, one, words, sight), (views, 1 - which))
                shower, silent = (other, one) if which == 1 else (one, other)
                self.assertIs(is_within(shower, silent, words, sight), False)


class ByTrial(Spoken):
    MOST = 4

    def test_view_rows_of_few_keys(self):
        for words, sight in product(LISTS[1:], [0, 1]):
            seen = [set(rows_by_views(one, words, sight, self.MOST)) for one in DRAWN]
            for (one, shown), (other, answered) in permutations(zip(DRAWN, seen), 2):
                with self.subTest(one=one, other=other, words=words, sight=sight):
                    self.check_first(one, other, words, sight, shown, answered)

    def check_first(self, one, other, words, sight, shown, answered):
        if shown - answered:
            self.assertIs(is_within(one, other, words, sight), False)
        first = first_view_row(shown ^ answered)
        try:
            views, which = telling_views(one, other, words, sight)
        except NotFound:
            self.assertIsNone(first)
            return
        if first is None:
            self.assertGreater(len(views), self.MOST)
        else:
            self.assertEqual((views, which), (first, 0 if tuple(first) in shown else 1))

    def test_what_tells_is_shown_by_one(self):
        for words, sight in product(LISTS, [0, 1]):
            for one, other in combinations(DRAWN, 2):
                with self.subTest(one=one, other=other, words=words, sight=sight):
                    try:
                        views, which = telling_views(one, other, words, sight)
                    except NotFound:
                        continue
                    shower, silent = (other, one) if which == 1 else (one, other)
                    self.assertTrue(can_show(shower, words, sight, views))
                    self.assertFalse(can_show(silent, words, sight, views))
                    self.assertTrue(can_show(silent, words, sight, views[:-1]))

    def test_long_view_rows_of_a_way_within_another(self):
        for words, sight in product(LISTS, [0, 1]):
            for one, other in permutations(DRAWN, 2):
                if is_within(one, other, words, sight):
                    for row in LONG_ROWS:
                        views = views_of(one, words, sight, row)
                        with self.subTest(one=one, other=other, words=words, views=views):
                            self.assertTrue(can_show(other, words, sight, views))


# Ways that differ in one item, for lists where that matters, and where it does not.
NEIGHBOURS = [
    (("common", 1, "blank", "next", "both", 1), ("common", 1, "always", "next", "both", 1)),
    (("short", 1, "always", "next", "both", 1), ("short", 1, "always", "stay", "both", 1)),
    (("first", 1, "tab", "stay", "both", 1), ("first", 1, "tab", "stay", "both", 0)),
    (("first", 1, "always", "stay", "letter", 1), ("first", 1, "always", "stay", "letter", 0)),
    (("first", 1, "always", "next", "letter", 1), ("first", 1, "always", "next", "letter", 0)),
    (("common", 1, "tab", "next", "letter", 1), ("common", 1, "tab", "next", "letter", 0)),
    (("first", 1, "blank", "next", "offer", 1), ("first", 1, "blank", "next", "both", 1)),
    (("first", 1, "blank", "next", "offer", 0), ("first", 1, "blank", "next", "letter", 0)),
    (("short", 1, "tab", "next", "letter", 1), ("first", 1, "tab", "next", "letter", 1)),
    (("first", 2, "blank", "stay", "offer", 1), ("common", 2, "blank", "stay", "offer", 1)),
    (("short", 1, "blank", "stay", "both", 1), ("short", 2, "blank", "stay", "both", 1)),
]
NEIGHBOUR_LISTS = [
    ["bba"], ["bba", "ba"], ["ba", "aaa"], ["bab", "aa"], ["aab", "aa"], ["aa", "aaa"],
    ["bbb", "bba"], ["a", "bab"],
]


class BySetsOfStates(Spoken):
    """The same answers as from all states, and all texts of up to 4 letters."""

    def test_ways_that_differ_in_one_item(self):
        for words, sight in product(NEIGHBOUR_LISTS, [0, 1]):
            for one, other in NEIGHBOURS:
                self.check_by_sets(one, other, words, sight)

    def test_other_ways(self):
        for one, other in zip(all_ways()[::29], all_ways()[100::11]):
            for words, sight in product([["ab", "abb"], ["bab", "baa"]], [0, 1]):
                self.check_by_sets(one, other, words, sight)

    def check_by_sets(self, one, other, words, sight):
        rows = [
            (first_views_of_one(one, other, words, sight), 0),
            (first_views_of_one(other, one, words, sight), 1),
        ]
        with self.subTest(one=one, other=other, words=words, sight=sight):
            self.assertIs(is_within(one, other, words, sight), rows[0][0] is None)
            self.assertIs(is_within(other, one, words, sight), rows[1][0] is None)
            told = [(views, which) for views, which in rows if views is not None]
            if told:
                first = min(told, key=lambda row: view_row_place(row[0]))
                self.assertEqual(telling_views(one, other, words, sight), first)
                self.assertEqual(spoken_classes([one, other, one], words, sight), [[0, 2], [1]])
            else:
                with self.assertRaises(NotFound):
                    telling_views(one, other, words, sight)
                self.assertEqual(spoken_classes([one, other, one], words, sight), [[0, 1, 2]])


class IsWithin(Spoken):
    def test_one_way_round_alone(self):
        # A blank that takes the offer leaves end to put in the text alone.
        for words in [["ab"], ["ab", "aba"], ["b", "ab"]]:
            for sight in [0, 1]:
                with self.subTest(words=words, sight=sight):
                    self.assertIs(is_within(way(), way(accept="blank"), words, sight), True)
                    self.assertIs(is_within(way(accept="blank"), way(), words, sight), False)
        self.assertIs(is_within(way(accept="always"), way(accept="blank"), ["ab"], 0), True)
        self.assertIs(is_within(way(accept="blank"), way(accept="always"), ["ab"], 0), False)

    def test_neither_way_round(self):
        self.assertIs(is_within(way(), way(accept="always"), ["ab"], 0), False)
        self.assertIs(is_within(way(accept="always"), way(), ["ab"], 0), False)
        self.assertIs(is_within(P, Q, ["ab", "aba"], 0), False)
        self.assertIs(is_within(Q, P, ["ab", "aba"], 0), False)

    def test_a_way_in_itself(self):
        for one in all_ways():
            for sight in [0, 1]:
                self.check(one, one, ["ab", "aa"], sight, None)

    def test_ways_that_are_alike(self):
        for sight in [0, 1]:
            self.check(P, Q, ["b"], sight, None)
            self.check(way(again="next"), way(), ["ab"], sight, None)
            self.check(way("common"), way("common", learn=1), ["ab", "aa"], sight, None)

    def test_unlike_ways_of_which_the_same_is_seen(self):
        # Other keys put the same texts in, behind as many keys.
        for words in [["ab"], ["ab", "aa"], ["ab", "aba"]]:
            with self.subTest(words=words):
                self.assertFalse(same(way(), way(back="offer"), words, 1))
                self.check(way(), way(back="offer"), words, 1, None)
                self.assertFalse(is_within(way(back="offer"), way(), words, 0))
                self.assertFalse(is_within(way(), way(back="offer"), words, 0))


class TellingViews(Spoken):
    def test_the_first_and_the_second(self):
        self.check(way(accept="blank"), way(), ["ab"], 1, (["", "ab"], 0))
        self.check(way(), way(accept="blank"), ["ab"], 1, (["", "ab"], 1))
        self.check(way(), way(accept="blank"), ["ab"], 0, ([("a", "b", ""), ("", "", "ab")], 1))
        self.check(way(accept="always"), way(accept="blank"), ["ab"], 1, (["", "a"], 1))

    def test_of_view_rows_of_one_length_the_first(self):
        # Each of the two ways shows a view row that the other one does not.
        self.check(P, Q, ["ab", "aba"], 0, ([("a", "", "")], 1))
        self.check(way(), way(accept="always"), ["ab"], 1, (["", "a"], 0))
        self.check(way("first"), way("short"), ["aba", "ab"], 0, ([("a", "b", "")], 1))
        self.check(way("short"), way("common"), ["ab", "aa"], 0, ([("a", "", "")], 1))
        self.check(way(back="both"), way(), ["ab"], 0, (
            [("a", "b", ""), ("aa", "", ""), ("a", "", "")], 0))

    def test_shorter_texts_come_first(self):
        # By [1], "ba" comes ahead of "abb", and "b" ahead of "ab".
        one = ("first", 1, "blank", "next", "letter", 0)
        other = ("short", 2, "blank", "stay", "letter", 1)
        self.check(one, other, ["abb", "ba"], 1, (["", "ba"], 0))
        self.check(way("short"), way("first"), ["bab", "bb"], 0, ([("b", "b", "")], 0))

    def test_shorter_view_rows_come_first(self):
        # Of the first way ("aa", "", "") is seen behind ("a", "b", ""), and a learned
        # offer then, but that takes four views; of the second one three are enough.
        one = way("short", 1, "always", "stay", learn=1)
        other = way("short", 1, "always", "next")
        views = [("a", "b", ""), ("ab", "", ""), ("aa", "", "")]
        self.check(one, other, ["ab", "aa"], 0, (views, 1))
        self.check(way("common", accept="blank"), way(), ["ab", "aa"], 0, ([("a", "", "")], 0))
        self.check(way(), way(since=2), ["ab"], 1, None)
        self.check(way(accept="blank"), way(accept="blank", since=2), ["ab"], 1, (["", "ab"], 0))

    def test_long_view_rows(self):
        one = ("common", 1, "tab", "next", "letter", 1)
        other = ("common", 1, "tab", "next", "letter", 0)
        views = [
            ("b", "b", ""), ("bb", "", ""), ("bba", "", ""), ("", "", "bba"),
            ("b", "b", ""), ("bb", "", ""), ("bba", "", ""), ("bbb", "", ""),
        ]
        self.check(one, other, ["bbb", "bba"], 0, (views, 0))
        one = ("first", 1, "tab", "next", "offer", 1)
        other = ("first", 1, "tab", "next", "offer", 0)
        views = ["", "", "", "bba", "", "", "bba"]
        self.check(one, other, ["ba", "bba"], 1, (views, 0))

    def test_three_words(self):
        for words in [W, ["a", "b", "aa"]]:
            for one, other in [(P, Q), (P, P)]:
                for sight in [0, 1]:
                    with self.assertRaises(NotFound):
                        telling_views(one, other, words, sight)
                    with self.assertRaises(NotFound):
                        is_within(one, other, words, sight)
                    with self.assertRaises(NotFound):
                        spoken_classes([one, other], words, sight)

    def test_kinds_of_values(self):
        told = telling_views(P, Q, ["ab"], 0)
        self.assertIs(type(told), tuple)
        self.assertIs(type(told[0]), list)
        self.assertIs(type(told[1]), int)
        self.assertIs(is_within(P, P, ["ab"], 0), True)


class SpokenClasses(Spoken):
    def check_groups(self, family, words, sight, groups):
        with self.subTest(family=family, words=words, sight=sight):
            self.assertEqual(spoken_classes(family, words, sight), groups)

    def test_groups(self):
        for sight in [0, 1]:
            self.check_groups([P], ["ab"], sight, [[0]])
            self.check_groups([P, P], ["ab"], sight, [[0, 1]])
            self.check_groups([P, Q], ["ab", "aba"], sight, [[0], [1]])
            self.check_groups([Q, P, Q, P], ["ab", "aba"], sight, [[0, 2], [1, 3]])
            self.check_groups(all_ways()[:8], ["b"], sight, [list(range(8))])
            # Of the ways at 0 and 2 more is seen than of those at 1 and 3.
            family = [way(accept="blank"), way(), way(accept="blank"), way()]
            self.check_groups(family, ["ab"], sight, [[0, 2], [1, 3]])

    def test_ways_that_are_not_alike(self):
        family = [way(), way(accept="blank"), way(back="offer"), way(accept="always"), way()]
        self.check_groups(family, ["ab"], 0, [[0, 4], [1], [2], [3]])
        self.check_groups(family, ["ab"], 1, [[0, 2, 4], [1], [3]])

    def test_by_both_ways_round(self):
        for words, sight in product(LISTS, [0, 1]):
            groups = []
            for one in DRAWN:
                group = [
                    place for place, other in enumerate(DRAWN)
                    if is_within(one, other, words, sight) and is_within(other, one, words, sight)
                ]
                if group not in groups:
                    groups.append(group)
            self.check_groups(DRAWN, words, sight, groups)


if __name__ == "__main__":
    unittest.main()
