"""[7] and seeing.py: the rows for which a view row is seen."""

import unittest

from fieldoffers.errors import BadViews, NotFound
from fieldoffers.running import state_after, views_of
from fieldoffers.seeing import can_show, count_rows, first_row, showers, states_behind
from fieldoffers.ways import all_ways
from tests.samples import P, Q, W, way
from tests.trials import count_from_the_last, rows_by_views, states_of

ORDER = tuple(W)
NO_VIEW = ("bbbb", "abab", "bbbb")
EMPTY = ("", "", 0, ORDER, "")


class Seeing(unittest.TestCase):
    def check(self, one, words, sight, views, rows):
        """Check all answers against the rows, in order, for which the views are seen."""
        with self.subTest(way=one, words=words, sight=sight, views=views):
            self.assertIs(can_show(one, words, sight, views), True)
            self.assertEqual(first_row(one, words, sight, views), rows[0])
            self.assertEqual(count_rows(one, words, sight, views), len(rows))
            self.assertEqual(
                states_behind(one, words, sight, views), states_of(one, words, rows))

    def check_none(self, one, words, sight, views):
        with self.subTest(way=one, words=words, sight=sight, views=views):
            self.assertIs(can_show(one, words, sight, views), False)
            self.assertEqual(count_rows(one, words, sight, views), 0)
            self.assertEqual(states_behind(one, words, sight, views), [])
            self.assertEqual(showers([one, one], words, sight, views), [])
            with self.assertRaises(NotFound):
                first_row(one, words, sight, views)


class ByTrial(Seeing):
    WAYS = [P, Q, way("short", 1, "always", "next", "both", 1), way(back="offer", again="next")]

    def test_all_rows_of_few_keys(self):
        for one in self.WAYS:
            for words in [W, ["ab", "aa"]]:
                for sight in [0, 1]:
                    found = rows_by_views(one, words, sight, 3)
                    for views in found:
                        self.check(one, words, sight, list(views), found[views])

    def test_rows_of_four_keys(self):
        for sight in [0, 1]:
            found = rows_by_views(self.WAYS[2], ["aba", "ab"], sight, 4)
            for views in found:
                self.check(self.WAYS[2], ["aba", "ab"], sight, list(views), found[views])

    def test_views_that_another_way_shows(self):
        for sight in [0, 1]:
            seen = [rows_by_views(one, W, sight, 3) for one in self.WAYS]
            for found in seen:
                for views in found:
                    places = [at for at, other in enumerate(seen) if views in other]
                    with self.subTest(sight=sight, views=views):
                        self.assertEqual(showers(self.WAYS, W, sight, list(views)), places)
                    for at, one in enumerate(self.WAYS):
                        if at not in places:
                            self.check_none(one, W, sight, list(views))


class EmptyViewRow(Seeing):
    def test_of_every_way(self):
        for one in all_ways():
            for sight in [0, 1]:
                self.check(one, W, sight, [], [[]])

    def test_its_one_state(self):
        self.assertEqual(first_row(P, W, 0, []), [])
        self.assertEqual(states_behind(P, W, 1, []), [EMPTY])
        self.assertEqual(count_rows(P, W, 0, []), 1)
        self.assertEqual(showers([P, Q], W, 0, []), [0, 1])


class DrawnRows(Seeing):
    ROWS = [
        ["a", "tab", "end", "b", "blank", "tab"],
        ["b", "a", "b", "back", "back", "end", "end"],
        ["a", "b", "tab", "tab", "back", "a", "blank", "a", "a", "a", "a", "a", "end"],
        ["back", "end", "blank", "tab"] * 3 + ["b", "end"] * 4,
        ["a", "b", "a", "blank", "a", "tab", "tab", "back", "b", "end"] * 4,
    ]

    def test_views_as_they_are(self):
        for one in [P, Q, way("short", 1, "blank", "next", "both", 1)]:
            for row in self.ROWS:
                for sight in [0, 1]:
                    views = views_of(one, W, sight, row)
                    with self.subTest(way=one, row=row, sight=sight):
                        self.assertIs(can_show(one, W, sight, views), True)
                        first = first_row(one, W, sight, views)
                        self.assertEqual(len(first), len(row))
                        self.assertEqual(views_of(one, W, sight, first), views)
                        behind = states_behind(one, W, sight, views)
                        self.assertIn(state_after(one, W, row), behind)
                        self.assertIn(state_after(one, W, first), behind)
                        self.assertGreaterEqual(count_rows(one, W, sight, views), len(behind))

    def test_views_that_no_row_shows(self):
        for row in self.ROWS:
            for at in [0, len(row) // 2, len(row) - 1]:
                views = views_of(P, W, 0, row)
                views[at] = NO_VIEW
                self.check_none(P, W, 0, views)
                # Behind a key that puts a text in, the next one puts none in.
                views = views_of(P, W, 1, row)
                views[at] = "a"
                views[at - 1 if at > 0 else 1] = "a"
                self.check_none(P, W, 1, views)

    def test_texts_put_in_too_early(self):
        self.check_none(P, W, 1, ["a"])
        self.check_none(P, W, 1, ["", "aba"])
        self.check(P, W, 1, ["", "", "", "aba"], [
            ["a", "b", "a", "blank"], ["a", "b", "a", "end"],
            ["a", "b", "tab", "blank"], ["a", "b", "tab", "end"],
            ["a", "tab", "a", "blank"], ["a", "tab", "a", "end"],
        ])
        self.check_none(P, W, 1, ["", "a", "a"])

    def test_offers_that_are_not_offered(self):
        self.check(P, W, 0, [("a", "b", "")], [["a"]])
        self.check_none(P, W, 0, [("a", "", "")])
        self.check_none(Q, W, 0, [("a", "b", "")])
        self.check(Q, W, 0, [("a", "", "")], [["a"]])

    def test_views_of_no_state(self):
        self.check_none(P, W, 0, [("", "a", "")])
        self.check_none(P, W, 0, [("a", "b", "a")])
        self.check_none(P, W, 0, [("aaaa", "a", "")])


class FirstRow(Seeing):
    def test_of_several_rows(self):
        cases = [
            (P, 0, [("", "", "")], ["tab"]),
            (P, 0, [("", "", "")] * 40, ["tab"] * 40),
            (P, 0, [("a", "b", ""), ("", "", "")], ["a", "back"]),
            (P, 0, [("a", "b", ""), ("", "", "a"), ("", "", "")], ["a", "blank", "tab"]),
            (P, 1, [""], ["a"]),
            (P, 1, [""] * 40, ["a"] * 40),
            (P, 1, ["", "a"], ["a", "blank"]),
            (P, 1, ["", "", "ab"], ["a", "b", "blank"]),
            (P, 1, ["", "", "", "ab"], ["a", "tab", "tab", "blank"]),
            (P, 1, ["", "", "b"], ["b", "tab", "blank"]),
            (P, 1, ["", "", "", "b"], ["a", "back", "b", "blank"]),
            (way(accept="blank"), 1, ["", "a"], ["a", "end"]),
            (way(accept="blank"), 1, ["", "ab"], ["a", "blank"]),
            (way(accept="always"), 1, ["", "", "aba"], ["a", "b", "blank"]),
        ]
        for one, sight, views, row in cases:
            with self.subTest(way=one, sight=sight, views=views):
                self.assertEqual(first_row(one, W, sight, views), row)


class StatesBehind(Seeing):
    def test_ascending(self):
        # By [1] a shorter text comes first: "b" ahead of "aa".
        self.assertEqual(states_behind(P, W, 1, ["", ""]), [
            ("", "", 0, ORDER, ""), ("a", "", 0, ORDER, ""), ("b", "", 0, ORDER, ""),
            ("aa", "", 0, ORDER, ""), ("ab", "", 0, ORDER, ""), ("ab", "a", 1, ORDER, ""),
            ("ba", "", 0, ORDER, ""), ("bb", "", 0, ORDER, ""),
        ])

    def test_quiet_states_behind_those_that_are_not(self):
        plain = ["", "a", "b", "aa", "ab", "ba", "bb",
                 "aaa", "aab", "aba", "abb", "baa", "bab", "bba", "bbb"]
        states = [(text, "", 0, ("b",), "") for text in plain]
        states.insert(3, ("b", "", 1, ("b",), ""))
        states.insert(2, ("a", "", 1, ("b",), ""))
        self.assertEqual(states_behind(way(back="both"), ["b"], 1, ["", "", ""]), states)

    def test_without_repeats(self):
        self.assertEqual(states_behind(P, W, 0, [("", "", "")] * 3), [EMPTY])
        self.assertEqual(states_behind(P, W, 1, ["", "a"]), [("", "", 0, ORDER, "a")])
        self.assertEqual(states_behind(P, W, 1, ["", "", "ab"]), [("", "", 0, ORDER, "ab")])

    def test_states_of_one_text(self):
        views = [("a", "b", ""), ("ab", "a", ""), ("aba", "", "")]
        self.assertEqual(states_behind(P, W, 0, views), [
            ("aba", "", 0, ORDER, ""), ("aba", "ab", 1, ORDER, ""),
        ])
        one = way(choice="common", again="next", back="both")
        order = ("ab", "aba", "abb")
        self.assertEqual(states_behind(one, list(order), 0, [("a", "b", ""), ("ab", "", "")]), [
            ("ab", "", 0, order, ""), ("ab", "a", 1, order, ""),
        ])
        self.assertEqual(
            states_behind(one, list(order), 0, [("b", "", ""), ("bb", "", ""), ("b", "", "")]),
            [("b", "", 1, order, "")])

    def test_learned_orders(self):
        one = way(learn=1)
        order = ("b", "ab", "aba")
        self.assertEqual(states_behind(one, W, 1, ["", "b"]), [("", "", 0, order, "b")])
        self.assertEqual(states_behind(one, W, 1, ["", "b", ""]), [
            ("", "", 0, order, ""), ("a", "", 0, order, ""), ("b", "", 0, order, ""),
        ])


class CountRows(Seeing):
    def test_example(self):
        self.assertEqual(count_rows(P, W, 1, ["", "a"]), 2)

    def test_few_views(self):
        self.assertEqual(count_rows(P, W, 1, [""]), 6)
        self.assertEqual(count_rows(P, W, 0, [("", "", "")]), 4)
        self.assertEqual(count_rows(P, W, 1, ["", ""]), 32)
        self.assertEqual(count_rows(P, W, 1, ["", "", "ab"]), 4)
        self.assertEqual(count_rows(way(accept="always"), W, 1, ["", "ab"]), 2)
        self.assertEqual(count_rows(way(accept="blank"), W, 1, ["", "ab"]), 1)

    def test_40_views(self):
        self.assertEqual(count_rows(P, W, 0, [("", "", "")] * 40), 4 ** 40)
        self.assertEqual(count_rows(P, W, 0, [("a", "b", ""), ("", "", "a")] * 20), 2 ** 20)
        self.assertEqual(count_rows(P, W, 1, ["", "a"] * 20), 2 ** 20)

    def test_40_views_in_turns_of_4(self):
        # The fourth key of a turn leaves the field empty (4 keys) or types "a" or
        # "b". The next three put "ab" in by 4 rows from an empty field, by 2 behind
        # "a" (tab, tab, and blank or end) and by none behind "b".
        self.assertEqual(
            count_rows(P, W, 1, ["", "", "ab", ""] * 10), 4 * (4 * 4 + 2) ** 9 * 6)

    def test_40_views_from_the_last_one(self):
        learner = way("short", 1, "blank", "next", "both", 1)
        for one, words in [(P, ["b"]), (Q, W), (learner, ["aba", "ab", "aa"])]:
            for views in [[""] * 40, ["", "", "", "", "ab"] * 8]:
                with self.subTest(way=one, words=words, views=views):
                    many = count_from_the_last(one, words, 1, views)
                    self.assertGreater(many, 10 ** 9)
                    self.assertEqual(count_rows(one, words, 1, views), many)


class WrongViews(unittest.TestCase):
    def test_lengths_and_sights(self):
        for function in [can_show, first_row, states_behind, count_rows]:
            for sight, view in [(0, ("", "", "")), (1, "")]:
                self.assertIsNotNone(function(P, W, sight, [view] * 40))
                for views in [[view] * 41, [view, None], [view, True], (view,), view, None]:
                    with self.subTest(function=function.__name__, sight=sight, views=views):
                        with self.assertRaises(BadViews):
                            function(P, W, sight, views)
                        with self.assertRaises(BadViews):
                            showers([P], W, sight, views)
                with self.assertRaises(BadViews):
                    function(P, W, 1 - sight, [view])


if __name__ == "__main__":
    unittest.main()
