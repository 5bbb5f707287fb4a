"""[8] and telling.py: ways that are alike, and the rows that tell others apart."""

import unittest
from itertools import combinations, product

from fieldoffers.cores import Cores
from fieldoffers.errors import NotFound
from fieldoffers.running import views_of
from fieldoffers.telling import (
    classes, first_row_from, least_list, same, telling_row, telling_table,
)
from fieldoffers.ways import all_ways
from fieldoffers.words import small_lists
from tests.samples import P, Q, W, way
from tests.trials import first_unlike_row, length_to_tell

DRAWN = [
    P, Q, way(back="both"), way(back="offer", learn=1), way("short", 1, "blank", "next", "both", 1),
    way("common", 2, "blank"), way(since=2, accept="always"), way("short", again="next"),
]
LISTS = [["ab"], ["b"], ["ab", "aa"], ["aba", "ab"], W, ["aba", "abb", "aa"]]


class Telling(unittest.TestCase):
    def check(self, one, other, words, sight, row):
        """Check a telling row, None for ways that are alike, both ways round."""
        for first, second in [(one, other), (other, one)]:
            with self.subTest(one=first, other=second, words=words, sight=sight):
                self.assertIs(same(first, second, words, sight), row is None)
                if row is None:
                    with self.assertRaises(NotFound):
                        telling_row(first, second, words, sight)
                else:
                    self.assertEqual(telling_row(first, second, words, sight), row)


class Alike(Telling):
    def test_a_way_with_itself(self):
        for one in all_ways():
            for sight in [0, 1]:
                self.check(one, one, ["ab", "aa"], sight, None)
        for sight in [0, 1]:
            self.check(Q, Q, W, sight, None)

    def test_where_nothing_can_be_offered(self):
        # No text of a letter or more begins a longer word.
        for one in all_ways():
            for sight in [0, 1]:
                self.check(one, P, ["b", "a"], sight, None)

    def test_for_one_list_and_not_for_another(self):
        for sight in [0, 1]:
            self.check(way(), way(since=2), ["b"], sight, None)
            self.check(way(again="next"), way(again="stay"), ["ab"], sight, None)
            self.check(way(again="next"), way(again="stay"), ["ab", "b"], sight, None)
            self.check(way(learn=0), way(learn=1), ["ab", "b"], sight, None)
            self.check(way("first"), way("short"), ["ab", "aba"], sight, None)
            self.check(way("first"), way("common"), ["ab", "aba"], sight, None)
            self.check(way("short"), way("common"), ["aba", "ab"], sight, None)
            for since in [1, 2]:
                self.check(way("first", since), way("short", since), ["a", "b"], sight, None)
        self.check(way(), way(since=2), ["ab"], 0, ["a"])
        self.check(way("first"), way("short"), ["aba", "ab"], 0, ["a"])
        self.check(way("first"), way("common"), ["aba", "ab"], 0, ["a"])

    def test_orders_do_not_matter_where_the_common_beginning_is_taken(self):
        for sight in [0, 1]:
            for words in [["ab", "aa"], W, ["aba", "abb", "aa"]]:
                self.check(way("common"), way("common", learn=1), words, sight, None)

    def test_kinds_of_values(self):
        self.assertIs(same(P, P, W, 0), True)
        self.assertIs(same(P, Q, W, 0), False)
        self.assertIs(type(telling_row(P, Q, W, 0)), list)


class FromOtherStates(unittest.TestCase):
    def test_one_way_from_two_cores(self):
        cores = Cores(way(back="both"), 0)
        empty = cores.core_of(("", "", 0, ("ab",), ""))
        quiet = cores.core_of(("a", "", 1, ("ab",), ""))
        typed = cores.core_of(("a", "", 0, ("ab",), ""))
        self.assertIsNone(first_row_from(cores, cores, (quiet, quiet)))
        self.assertEqual(first_row_from(cores, cores, (empty, typed)), ["a"])
        self.assertEqual(first_row_from(cores, cores, (typed, quiet)), ["tab"])


class TellingRow(Telling):
    def test_example(self):
        self.check(P, Q, W, 0, ["a"])

    def test_each_item_of_a_way(self):
        cases = [
            (way(), way(since=2), ["ab"], ["a"], ["a", "tab", "blank"]),
            (way(accept="blank"), way(since=2, accept="blank"), ["ab"], ["a"], ["a", "blank"]),
            (way("first"), way("short"), ["aba", "ab"], ["a"], ["a", "tab", "blank"]),
            (way("short"), way("common"), ["ab", "aa"], ["a"], ["a", "tab", "blank"]),
            (way(), way(accept="blank"), ["ab"], ["a", "blank"], ["a", "blank"]),
            (way(accept="always"), way(accept="blank"), ["ab"], ["a", "end"], ["a", "end"]),
            (way(), way(again="next"), ["ab", "aa"],
             ["a", "tab", "tab"], ["a", "tab", "tab", "blank"]),
            (way(), way(back="offer"), ["ab"], ["a", "back"], ["a", "back", "blank"]),
            (way(), way(back="both"), ["ab"],
             ["a", "a", "back"], ["a", "a", "back", "tab", "blank"]),
            (way(accept="always"), way(accept="always", back="both"), ["ab"],
             ["a", "a", "back"], ["a", "a", "back", "blank"]),
            (way(), way(learn=1), ["ab", "aa"],
             ["a", "a", "blank", "a"], ["a", "a", "blank", "a", "tab", "blank"]),
        ]
        for one, other, words, row, row_of_puts in cases:
            self.check(one, other, words, 0, row)
            self.check(one, other, words, 1, row_of_puts)

    def test_both_sights(self):
        self.check(P, Q, W, 1, ["a", "b", "blank"])
        self.check(way("common", 1, "always"), way("short", 1, "always"), W, 0, None)

    def test_long_rows(self):
        one = ("common", 1, "tab", "next", "letter", 1)
        other = ("common", 1, "tab", "next", "letter", 0)
        row = ["b", "b", "a", "blank", "b", "tab", "tab"]
        self.check(one, other, ["bbb", "bba"], 0, row)
        one = ("short", 2, "tab", "stay", "letter", 0)
        other = ("short", 2, "tab", "stay", "letter", 1)
        row = ["a", "b", "a", "blank", "a", "b", "tab", "blank"]
        self.check(one, other, ["abb", "aba", "aa"], 1, row)

    def test_by_trial(self):
        for one, other in combinations(DRAWN[:6], 2):
            for words, sight in product([["ab", "aa"], W], [0, 1]):
                row = first_unlike_row(one, other, words, sight, 4)
                if row is not None:
                    self.check(one, other, words, sight, row)

    def test_lengths_by_blocks(self):
        for one, other in combinations(DRAWN, 2):
            for words, sight in product(LISTS, [0, 1]):
                length = length_to_tell(one, other, words, sight)
                with self.subTest(one=one, other=other, words=words, sight=sight):
                    self.assertIs(same(one, other, words, sight), length is None)
                    if length is None:
                        with self.assertRaises(NotFound):
                            telling_row(one, other, words, sight)
                    else:
                        self.check_row(one, other, words, sight, length)

    def check_row(self, one, other, words, sight, length):
        row = telling_row(one, other, words, sight)
        views = views_of(one, words, sight, row)
        others = views_of(other, words, sight, row)
        self.assertEqual(len(row), length)
        self.assertEqual(views[:-1], others[:-1])
        self.assertNotEqual(views[-1], others[-1])


class LeastList(unittest.TestCase):
    def check(self, one, other, sight, words):
        with self.subTest(one=one, other=other, sight=sight):
            self.assertEqual(least_list(one, other, sight), words)
            self.assertEqual(least_list(other, one, sight), words)

    def test_lists(self):
        for sight in [0, 1]:
            self.check(P, Q, sight, ["aa"])
            self.check(way(), way(since=2), sight, ["aa"])
            self.check(way(accept="blank"), way(accept="always"), sight, ["aa"])
            self.check(way(back="letter"), way(back="both"), sight, ["aa"])
            self.check(way(since=2), way(since=2, back="offer"), sight, ["aaa"])
            self.check(way(), way(learn=1), sight, ["aa", "ab"])
            self.check(way(), way(again="next"), sight, ["aa", "ab"])
            self.check(way("first"), way("common"), sight, ["aa", "ab"])
            self.check(way("first"), way("short"), sight, ["aaa", "aa"])

    def test_none(self):
        for sight in [0, 1]:
            self.check(P, P, sight, None)
            self.check(Q, Q, sight, None)
            self.check(way("common"), way("common", learn=1), sight, None)

    def test_the_lists_ahead(self):
        for one, other in [(way(), way(learn=1)), (way("first"), way("short")), (P, Q)]:
            for sight in [0, 1]:
                words = least_list(one, other, sight)
                lists = small_lists()
                place = lists.index(words)
                self.assertIsNotNone(length_to_tell(one, other, words, sight))
                for ahead in lists[:place]:
                    with self.subTest(one=one, other=other, sight=sight, words=ahead):
                        self.assertIsNone(length_to_tell(one, other, ahead, sight))

    def test_the_first_of_all_lists(self):
        pairs = list(combinations(DRAWN, 2))[::4] + [
            (way("first"), way("short", learn=1)), (way(learn=1), way("short", learn=1)),
            (way("common", 2, back="offer"), way("common", 2, back="both")),
            (way("common", again="next"), way("common", again="next", learn=1)),
            (way("common", accept="always"), way("common", accept="always", learn=1)),
        ]
        for one, other in pairs:
            for sight in [0, 1]:
                unlike = (words for words in small_lists() if not same(one, other, words, sight))
                self.check(one, other, sight, next(unlike, None))

    def test_the_list_is_new(self):
        least_list(P, Q, 0).append("b")
        self.assertEqual(least_list(P, Q, 0), ["aa"])
        self.assertEqual(len(small_lists()), 196)
        self.assertEqual(small_lists()[2], ["aa"])


class Families(unittest.TestCase):
    def check(self, family, words, sight, groups):
        with self.subTest(family=family, words=words, sight=sight):
            self.assertEqual(classes(family, words, sight), groups)

    def test_groups(self):
        for sight in [0, 1]:
            self.check([P], W, sight, [[0]])
            self.check([P, P], W, sight, [[0, 1]])
            self.check([P, Q], W, sight, [[0], [1]])
            self.check([P, Q], ["b"], sight, [[0, 1]])
            self.check([Q, P, Q, P], W, sight, [[0, 2], [1, 3]])
            self.check([P, Q, Q, P, P], W, sight, [[0, 3, 4], [1, 2]])
            self.check(all_ways()[:8], ["b"], sight, [list(range(8))])
            self.check([P] * 8, W, sight, [list(range(8))])

    def test_eight_ways(self):
        family = [
            way("common", learn=1), way("short"), way(since=2), way("common"),
            way("first"), way(since=2, learn=1), way("short", back="both"), way("common"),
        ]
        for sight in [0, 1]:
            self.check(family, ["aba", "ab"], sight, [[0, 1, 3, 7], [2, 5], [4], [6]])
            self.check(family, ["ab", "aba"], sight, [[0, 1, 3, 4, 7], [2, 5], [6]])
            # Behind "a" the words have no common beginning; behind two letters none fits.
            self.check(family, ["ab", "aa"], sight, [[0, 2, 3, 5, 7], [1, 4], [6]])

    def test_table(self):
        for family, words, sight, table in [
            ([P], W, 0, [[None]]),
            ([P, P], W, 0, [[None, None], [None, None]]),
            ([P, Q], W, 0, [[None, 1], [1, None]]),
            ([P, Q], W, 1, [[None, 3], [3, None]]),
            ([P, Q], ["b"], 0, [[None, None], [None, None]]),
            ([P, Q, P], W, 0, [[None, 1, None], [1, None, 1], [None, 1, None]]),
            ([way(), way(back="offer"), way(back="both")], ["ab"], 0,
             [[None, 2, 3], [2, None, 2], [3, 2, None]]),
            ([way(), way(back="offer"), way(back="both")], ["ab"], 1,
             [[None, 3, 5], [3, None, 3], [5, 3, None]]),
        ]:
            with self.subTest(family=family, words=words, sight=sight):
                self.assertEqual(telling_table(family, words, sight), table)

    def test_both_by_blocks(self):
        for words, sight in product([["ab", "aa"], ["aba", "ab"], W], [0, 1]):
            table = [
                [length_to_tell(one, other, words, sight) for other in DRAWN] for one in DRAWN
            ]
            groups = []
            for at, row in enumerate(table):
                group = [place for place, length in enumerate(row) if length is None]
                self.assertIn(at, group)
                if group not in groups:
                    groups.append(group)
            with self.subTest(words=words, sight=sight):
                self.assertEqual(telling_table(DRAWN, words, sight), table)
                self.assertEqual(classes(DRAWN, words, sight), groups)


if __name__ == "__main__":
    unittest.main()
