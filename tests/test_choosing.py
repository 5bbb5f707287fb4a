"""choosing.py: the key that parts best, and rows that show the same of two ways."""

import unittest
from collections import Counter
from itertools import combinations, combinations_with_replacement, product

from fieldoffers.choosing import best_key, count_same
from fieldoffers.errors import BadNumber, BadWay, BadWords, NotFound
from fieldoffers.keys import all_keys
from fieldoffers.reading import made
from fieldoffers.running import views_of
from fieldoffers.ways import all_ways
from tests.samples import P, Q, W, WRONG_LENGTHS, way
from tests.trials import count_same_rows, rows_up_to

DRAWN = [
    P, Q, way(back="both"), way(back="offer", learn=1), way("short", 1, "blank", "next", "both", 1),
    way("common", 2, "blank"), way(since=2, accept="always"), way("short", again="next"),
]


def record_of(one, words, sight, row):
    return (list(row), views_of(one, words, sight, row))


class BestKey(unittest.TestCase):
    def check(self, family, words, sight, record, key):
        with self.subTest(family=family, words=words, sight=sight, record=record):
            self.assertEqual(best_key(family, words, sight, record), key)

    def test_one_key_parts_best(self):
        # Ahead of the keys all show the same but for "a"; behind "a" back parts.
        self.check([P, Q], ["ab"], 0, ([], []), "a")
        self.check([way(), way(back="offer")], ["ab"], 0, (["a"], [("a", "b", "")]), "back")
        self.check([way(), way(accept="blank")], ["ab"], 0, (["a"], [("a", "b", "")]), "blank")
        self.check([P, Q], ["ba"], 0, ([], []), "b")
        self.check([P, way(since=2)], ["ab"], 1, (["a", "tab"], ["", ""]), "blank")

    def test_of_keys_that_part_alike_well_the_first(self):
        # Behind "a" the offer is taken by tab alone, or by blank and end, too.
        record = (["a"], [("a", "b", "")])
        self.check([way(), way(accept="always")], ["ab"], 0, record, "blank")
        # Both learned and unlearned words are offered behind "a", and else nowhere.
        row = ["a", "a", "end"]
        family = [way(), way(learn=1)]
        self.check(family, ["ab", "aa"], 0, record_of(way(), ["ab", "aa"], 0, row), "a")
        # No key parts ways that are alike, nor one way.
        for sight in [0, 1]:
            self.check([P, P], W, sight, ([], []), "a")
            self.check([P], W, sight, record_of(P, W, sight, ["a", "tab"]), "a")

    def test_the_greatest_group_counts(self):
        # Blank parts these into 2 and 2, back into 3 and 1.
        family = [way(), way(accept="blank"), way(accept="blank"), way(back="offer")]
        record = (["a"], [("a", "b", "")])
        self.check(family, ["ab"], 0, record, "blank")
        # With two more, blank parts them into 4 and 2, back into 3 and 3.
        self.check(family + [way(back="offer")] * 2, ["ab"], 0, record, "back")
        # That end parts into 3, 1 and 1 is no better than that blank parts into 3 and 2.
        family = [
            way("first", accept="always"), way("first", accept="blank"),
            way("first", accept="blank"), way("short", accept="always"),
            way("short", accept="blank"),
        ]
        self.check(family, ["aab", "ab"], 1, (["a"], [""]), "blank")
        self.check(family[:1] + family[3:], ["aab", "ab"], 1, (["a"], [""]), "end")

    def test_ways_that_did_not_make_the_record_are_left_out(self):
        backs = [way(), way(back="offer")]
        # The first three offer nothing behind "a".
        family = [way(since=2), way(since=2, back="offer"), way(since=2, accept="blank")]
        record = (["a"], [("a", "b", "")])
        self.check(family + backs, ["ab"], 0, record, "back")
        self.check(family + backs, ["ab"], 0, (["a"], [("a", "", "")]), "a")
        self.check(backs + [Q], ["ab"], 0, record, "back")

    def test_full_rows(self):
        row = ["tab"] * 39 + ["a"]
        for sight in [0, 1]:
            record = record_of(way(), ["ab"], sight, row)
            self.check([way(), way(back="offer")], ["ab"], sight, record, ["back", "a"][sight])
            self.check([P] * 8, W, sight, record_of(P, W, sight, ["end"] * 40), "a")

    def test_no_way_made_it(self):
        for family in [[P], [P, Q], [P] * 8]:
            for record in [(["a"], [("b", "", "")]), (["tab", "end"], [("", "", ""), ("", "", "a")])]:
                with self.assertRaises(NotFound):
                    best_key(family, W, 0, record)
            with self.assertRaises(NotFound):
                best_key(family, ["ab"], 1, (["a", "end"], ["", "b"]))

    def test_by_trial(self):
        rows = [[], ["a"], ["a", "tab"], ["a", "b", "end"], ["b", "a", "blank", "a"]]
        for words, sight, row in product([["ab", "aa"], W], [0, 1], rows):
            for one in DRAWN:
                record = record_of(one, words, sight, row)
                left = [other for other in DRAWN if made(other, words, sight, record)]
                greatest = [
                    max(Counter(
                        views_of(other, words, sight, [*row, key])[-1] for other in left).values())
                    for key in all_keys()
                ]
                key = all_keys()[greatest.index(min(greatest))]
                self.check(DRAWN, words, sight, record, key)


class CountSame(unittest.TestCase):
    def check(self, one, other, words, sight, length, many):
        with self.subTest(one=one, other=other, words=words, sight=sight, length=length):
            self.assertEqual(count_same(one, other, words, sight, length), many)
            self.assertEqual(count_same(other, one, words, sight, length), many)

    def test_a_way_with_itself(self):
        for one in [P, Q, way("short", 1, "blank", "next", "both", 1)]:
            for words, sight, length in product([["ab"], W], [0, 1], [0, 1, 2, 7, 39, 40]):
                self.check(one, one, words, sight, length, 6 ** length)

    def test_ways_that_are_alike(self):
        for sight in [0, 1]:
            for length in [0, 1, 2, 40]:
                self.check(P, Q, ["b"], sight, length, 6 ** length)
                self.check(way("common"), way("common", learn=1), W, sight, length, 6 ** length)

    def test_ways_that_differ_at_the_first_key(self):
        # Behind "a" the views are unlike, behind the five other keys they are not.
        self.check(P, Q, ["ab"], 0, 0, 1)
        self.check(P, Q, ["ab"], 0, 1, 5)
        # Of 36 rows 6 begin with "a", and 4 press it behind a key that leaves the field empty.
        self.check(P, Q, ["ab"], 0, 2, 26)
        self.check(P, Q, ["ab"], 1, 0, 1)
        self.check(P, Q, ["ab"], 1, 1, 6)
        # Behind one letter Q offers nothing that end could take.
        self.check(P, Q, ["ab"], 1, 2, 36)
        self.check(way(), way(accept="always"), ["ab"], 1, 2, 34)
        self.check(way(), way(accept="blank"), ["ab"], 1, 2, 35)

    def test_all_rows_of_few_keys(self):
        for one, other in list(combinations(DRAWN, 2))[::3]:
            for words, sight in product([["ab", "aa"], W], [0, 1]):
                counted = Counter()
                for row in rows_up_to(3):
                    shown = views_of(one, words, sight, row)
                    counted[len(row)] += shown == views_of(other, words, sight, row)
                for length in range(4):
                    self.check(one, other, words, sight, length, counted[length])

    def test_long_rows_by_states(self):
        for at, (one, other) in enumerate(combinations_with_replacement(DRAWN[:6], 2)):
            words = [["ab"], ["ab", "aa"], W][at % 3]
            for sight, length in [(0, 40), (0, 39), (1, 12)]:
                many = count_same_rows(one, other, words, sight, length)
                self.check(one, other, words, sight, length, many)

    def test_40_keys_in_the_sight_1(self):
        one = way(accept="blank")
        for other in [way(), way("short", accept="blank", back="offer")]:
            many = count_same_rows(one, other, ["ab"], 1, 40)
            self.check(one, other, ["ab"], 1, 40, many)
            self.assertTrue(0 < many < 6 ** 40)

    def test_more_words(self):
        for one in all_ways()[::31]:
            self.check(one, Q, W, 0, 5, count_same_rows(one, Q, W, 0, 5))

    def test_no_lengths(self):
        for length in WRONG_LENGTHS:
            with self.subTest(length=length):
                with self.assertRaises(BadNumber):
                    count_same(P, Q, W, 0, length)
        with self.assertRaises(BadWay):
            count_same(P, None, W, 0, 41)
        with self.assertRaises(BadWords):
            count_same(P, Q, [], 0, 41)


if __name__ == "__main__":
    unittest.main()
