"""[7] and reading.py: records, and which ways made them."""

import unittest

from fieldoffers.errors import BadViews, BadWay
from fieldoffers.reading import bars, first_bar, made, remains
from fieldoffers.running import views_of
from fieldoffers.ways import all_ways
from tests.samples import P, Q, W, way

ROW = ["a", "tab", "end", "b", "back", "a", "b", "blank", "tab"]
OTHER_VIEW = {0: ("bbbb", "abab", "bbbb"), 1: "bbbb"}


def record_of(one, words, sight, row):
    return (list(row), views_of(one, words, sight, row))


def changed(record, sight, *places):
    """Give a record with other views, which no way shows, at some places."""
    row, views = record
    return (row, [OTHER_VIEW[sight] if at in places else view for at, view in enumerate(views)])


class FirstBar(unittest.TestCase):
    def check(self, one, words, sight, record, bar):
        with self.subTest(way=one, words=words, sight=sight, record=record):
            self.assertEqual(first_bar(one, words, sight, record), bar)
            self.assertIs(made(one, words, sight, record), bar is None)

    def test_records_of_the_way_itself(self):
        for one in all_ways():
            for sight in [0, 1]:
                for words in [W, ["ba"]]:
                    self.check(one, words, sight, record_of(one, words, sight, ROW), None)

    def test_a_view_changed_at_each_key(self):
        for one in [P, Q]:
            for sight in [0, 1]:
                record = record_of(one, W, sight, ROW)
                for at in range(len(ROW)):
                    self.check(one, W, sight, changed(record, sight, at), at)

    def test_several_views_changed(self):
        for sight in [0, 1]:
            record = record_of(P, W, sight, ROW)
            self.check(P, W, sight, changed(record, sight, 8, 3, 5), 3)
            self.check(P, W, sight, changed(record, sight, 0, 8), 0)

    def test_one_item_of_a_view_changed(self):
        self.check(P, W, 0, (["a"], [("a", "b", "")]), None)
        self.check(P, W, 0, (["a"], [("b", "b", "")]), 0)
        self.check(P, W, 0, (["a"], [("a", "", "")]), 0)
        self.check(P, W, 0, (["a"], [("a", "ba", "")]), 0)
        self.check(P, W, 0, (["a"], [("a", "b", "a")]), 0)
        self.check(P, W, 0, (["a", "end"], [("a", "b", ""), ("", "", "ab")]), 1)

    def test_empty_rows(self):
        for one in all_ways():
            for sight in [0, 1]:
                self.check(one, W, sight, ([], []), None)

    def test_records_of_another_way(self):
        # Q offers nothing behind one letter, and adds the offer at the end.
        self.check(Q, W, 0, record_of(P, W, 0, ["a", "end"]), 0)
        self.check(Q, W, 1, record_of(P, W, 1, ["a", "end"]), None)
        self.check(Q, W, 1, record_of(P, W, 1, ["a", "b", "end"]), 2)
        self.check(P, W, 1, record_of(Q, W, 1, ["a", "b", "end"]), 2)
        self.check(P, W, 1, (["a", "b", "end"], ["", "", "ab"]), None)
        self.check(Q, W, 1, (["a", "b", "end"], ["", "", "aba"]), None)

    def test_another_list(self):
        record = record_of(P, ["ab", "aba"], 0, ["b", "a", "tab"])
        self.check(P, ["ab"], 0, record, None)
        self.check(P, ["ba"], 0, record, 0)
        self.check(P, ["bab"], 1, record_of(P, ["ab"], 1, ["b", "tab", "end"]), 2)

    def test_40_keys(self):
        row = ["a", "blank"] * 20
        for sight in [0, 1]:
            record = record_of(P, W, sight, row)
            self.check(P, W, sight, record, None)
            self.check(P, W, sight, changed(record, sight, 39), 39)

    def test_no_records(self):
        for sight, views in [(0, [("a", "b", "")]), (1, [""])]:
            for record in [
                (["a"], []), ([], views), (["a", "b"], views), (["a"], views * 2),
                (["c"], views), (["a"] * 41, views * 41), [["a"], views], (["a"],),
                (tuple(["a"]), views), (["a"], tuple(views)), None, (["a"], None),
            ]:
                for function in [first_bar, made]:
                    with self.subTest(function=function.__name__, record=record):
                        with self.assertRaises(BadViews):
                            function(P, W, sight, record)

    def test_records_of_the_other_sight(self):
        for function in [first_bar, made]:
            with self.assertRaises(BadViews):
                function(P, W, 1, (["a"], [("a", "b", "")]))
            with self.assertRaises(BadViews):
                function(P, W, 0, (["a"], [""]))


class Families(unittest.TestCase):
    def check(self, family, words, sight, records, found):
        with self.subTest(family=family, words=words, sight=sight, records=records):
            self.assertEqual(bars(family, words, sight, records), found)
            places = [place for place, bar in enumerate(found) if bar is None]
            self.assertEqual(remains(family, words, sight, records), places)

    def test_families_of_one(self):
        for sight in [0, 1]:
            record = record_of(P, W, sight, ROW)
            self.check([P], W, sight, [record], [None])
            self.check([P], W, sight, [changed(record, sight, 4)], [(0, 4)])
            self.check([P], W, sight, [([], [])], [None])

    def test_families_of_two(self):
        self.check([P, Q], W, 0, [record_of(P, W, 0, ["b", "a"])], [None, None])
        self.check([P, Q], W, 0, [record_of(P, W, 0, ["b", "b", "end", "a"])], [None, (0, 3)])
        self.check([Q, P], W, 0, [record_of(P, W, 0, ["b", "b", "end", "a"])], [(0, 3), None])
        self.check([P, Q], W, 1, [(["a", "b", "end"], ["", "", "abb"])], [(0, 2), (0, 2)])

    def test_a_way_twice(self):
        record = record_of(P, W, 0, ["a"])
        self.check([P, P], W, 0, [record], [None, None])
        self.check([P, Q, P], W, 0, [record], [None, (0, 0), None])
        self.check([Q, P, Q], W, 0, [record], [(0, 0), None, (0, 0)])

    def test_families_of_eight(self):
        family = [
            way(), way(since=2), way(accept="blank"), way(accept="always"),
            way(choice="short"), way(), way(since=2, accept="always"), way(learn=1),
        ]
        words = ["aba", "ab"]
        self.check(family, words, 1, [(["a", "blank"], ["", "aba"])],
                   [(0, 1), (0, 1), None, None, (0, 1), (0, 1), (0, 1), (0, 1)])
        self.check(family, words, 1, [(["a", "end"], ["", "a"])],
                   [None, None, None, (0, 1), None, None, None, None])
        self.check(family, words, 1, [(["a", "end"], ["", "a"]), (["a", "blank"], ["", "a"])],
                   [None, None, (1, 1), (0, 1), None, None, None, None])
        self.check(family, words, 0, [(["a", "tab"], [("a", "b", ""), ("ab", "", "")])],
                   [(0, 0), (0, 0), (0, 0), (0, 0), None, (0, 0), (0, 0), (0, 0)])
        self.check(family, words, 0, [([], [])], [None] * 8)

    def test_the_first_record_that_was_not_made(self):
        for sight in [0, 1]:
            good = record_of(P, W, sight, ROW)
            late = changed(good, sight, 7)
            early = changed(good, sight, 2)
            self.check([P], W, sight, [good, late, early], [(1, 7)])
            self.check([P], W, sight, [early, good, late], [(0, 2)])
            self.check([P], W, sight, [good] * 11 + [late], [(11, 7)])
            self.check([P], W, sight, [good] * 12, [None])

    def test_each_way_has_its_own_bar(self):
        records = [
            (["a", "end"], ["", "a"]),
            (["b", "a", "blank"], ["", "", "ba"]),
            (["a", "b", "end"], ["", "", "ab"]),
        ]
        family = [P, Q, way(accept="always"), way(accept="blank"), way(choice="common")]
        self.check(family, ["ab", "aba", "bab"], 1, records,
                   [None, (1, 2), (0, 1), (1, 2), None])

    def test_by_each_record(self):
        family = [P, Q, way("short", 1, "always"), way(back="both"), way("common"), P]
        rows = [["a", "back", "end"], ["a", "b", "back", "blank"], ["b", "end", "a", "tab", "end"]]
        for sight in [0, 1]:
            for other in family:
                records = [record_of(other, W, sight, row) for row in rows]
                found = []
                for one in family:
                    all_bars = [first_bar(one, W, sight, record) for record in records]
                    barred = [(at, bar) for at, bar in enumerate(all_bars) if bar is not None]
                    found.append(barred[0] if barred else None)
                self.check(family, W, sight, records, found)

    def test_families_and_lists_that_are_too_short_or_too_long(self):
        record = record_of(P, W, 0, ["a"])
        for function in [remains, bars]:
            for family in [[], [P] * 9, (P,), P, [P, None]]:
                with self.assertRaises(BadWay):
                    function(family, W, 0, [record])
            for records in [[], [record] * 13, (record,), record, [record, None]]:
                with self.assertRaises(BadViews):
                    function([P], W, 0, records)

    def test_kinds_of_values(self):
        record = record_of(P, W, 0, ROW)
        wrong = changed(record, 0, 1)
        self.assertIs(type(remains([P], W, 0, [record])), list)
        self.assertIs(type(bars([P], W, 0, [wrong])), list)
        self.assertIs(type(bars([P], W, 0, [wrong])[0]), tuple)
        self.assertEqual(remains([P, Q], W, 0, [wrong]), [])


if __name__ == "__main__":
    unittest.main()
