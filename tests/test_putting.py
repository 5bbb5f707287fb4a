"""putting.py: the fewest keys that put texts in."""

import unittest
from fractions import Fraction
from itertools import product

from fieldoffers.errors import BadWords, NotFound
from fieldoffers.putting import costs, never_put, row_for, saved
from fieldoffers.running import state_after, views_of
from fieldoffers.ways import all_ways
from fieldoffers.words import all_texts
from tests.samples import P, Q, W, WRONG_WANTED, way
from tests.trials import fewest_keys_from, rows_up_to, steps_of

DRAWN = [
    P, Q, way(back="both"), way(accept="always"), way("short", 1, "blank", "next", "both", 1),
    way("first", 1, "always", "next", "letter", 1), way("common", 1, "always", "next"),
    way("short", 2, "always", back="offer", learn=1),
]
LISTS = [["b"], ["ab", "aa"], ["aba", "ab"], ["aa", "aaa"], W, ["aaa", "bba", "aba"]]
ROWS = [[], ["a"], ["a", "tab"], ["a", "b", "end"], ["b", "a", "back"], ["a", "a", "a", "a"],
        ["a", "tab", "end", "a", "a", "back"], ["a", "a", "blank", "b", "tab"]]

# A text is put in only if it is offered first: "aa" is, until "aaa" is learned.
FIRST_LEARNED = way(accept="always", learn=1)


class RowFor(unittest.TestCase):
    def check(self, one, words, row, wanted, expected):
        with self.subTest(way=one, words=words, row=row, wanted=wanted):
            self.assertEqual(row_for(one, words, row, wanted), expected)

    def check_none(self, one, words, row, wanted):
        with self.subTest(way=one, words=words, row=row, wanted=wanted):
            with self.assertRaises(NotFound):
                row_for(one, words, row, wanted)

    def test_example(self):
        self.check(P, W, [], "aba", ["a", "b", "a", "blank"])

    def test_from_the_first_state(self):
        self.check(P, W, [], "a", ["a", "blank"])
        self.check(P, W, [], "ab", ["a", "b", "blank"])
        self.check(P, W, [], "bbbb", ["b", "b", "b", "b", "blank"])
        self.check(way(accept="blank"), W, [], "ab", ["a", "blank"])
        self.check(way(accept="blank"), W, [], "a", ["a", "end"])
        self.check(way(accept="always", back="both"), ["ab"], [], "a", ["a", "a", "back", "blank"])
        self.check(way(accept="always", back="offer"), ["ab"], [], "a", ["a", "back", "blank"])
        self.check(P, ["aab"], [], "aab", ["a", "tab", "blank"])

    def test_behind_rows(self):
        self.check(P, W, ["a"], "ab", ["b", "blank"])
        self.check(P, W, ["a", "tab"], "ab", ["blank"])
        self.check(P, W, ["a", "tab"], "a", ["back", "blank"])
        self.check(P, W, ["b"], "aba", ["blank", "a", "b", "a", "blank"])
        self.check(P, W, ["a", "b", "end"], "ab", ["a", "b", "blank"])
        self.check(P, ["aab"], ["b"], "aab", ["blank", "a", "tab", "blank"])
        self.check(P, ["aab"], ["b", "b"], "aab", ["blank", "a", "tab", "blank"])
        # A full field is emptied by putting in what stands in it.
        self.check(P, W, ["b"] * 4, "a", ["blank", "a", "blank"])
        self.check(P, W, ["b"] * 40, "bbb", ["back", "blank"])

    def test_behind_learned_words(self):
        one = way(accept="blank", learn=1)
        self.check(one, ["ab", "aa"], [], "ab", ["a", "blank"])
        self.check(one, ["ab", "aa"], [], "aa", ["a", "a", "blank"])
        self.check(one, ["ab", "aa"], ["a", "a", "end"], "aa", ["a", "blank"])
        self.check(one, ["ab", "aa"], ["a", "a", "end"], "ab", ["a", "b", "blank"])

    def test_texts_put_in_on_the_way(self):
        self.check(P, W, ["a", "b", "b", "b"], "aa", ["blank", "a", "a", "blank"])
        # The keys come in order: blank empties the field ahead of back.
        self.check(P, W, ["b"], "aa", ["blank", "a", "a", "blank"])
        self.check(P, W, ["b"], "ba", ["a", "blank"])

    def test_not_found(self):
        self.check_none(way(accept="always"), ["aba"], [], "ab")
        self.check_none(way(accept="always"), ["aba"], ["b"], "a")
        self.check(FIRST_LEARNED, ["aa", "aaa"], [], "aa", ["a", "blank"])
        self.check_none(FIRST_LEARNED, ["aa", "aaa"], ["a", "a", "blank"], "aa")

    def test_by_trial(self):
        rows = list(rows_up_to(3))[1:]
        for one, words, row in product(DRAWN, LISTS[1:4], ROWS):
            first = {}
            for more in rows:
                put = views_of(one, words, 1, row + more)[-1]
                first.setdefault(put, more)
            for wanted in all_texts():
                if wanted in first:
                    self.check(one, words, row, wanted, first[wanted])

    def test_lengths_by_states(self):
        for one, words, row in product(DRAWN, LISTS, ROWS[::3]):
            fewest = fewest_keys_from(one, words, state_after(one, words, row))
            for wanted in all_texts():
                if wanted not in fewest:
                    self.check_none(one, words, row, wanted)
                else:
                    found = row_for(one, words, row, wanted)
                    with self.subTest(way=one, words=words, row=row, wanted=wanted):
                        self.assertEqual(len(found), fewest[wanted])
                        self.assertEqual(views_of(one, words, 1, row + found)[-1], wanted)

    def test_wrong_wanted_texts(self):
        for wanted in WRONG_WANTED:
            with self.subTest(wanted=wanted):
                with self.assertRaises(BadWords):
                    row_for(P, W, [], wanted)
                with self.assertRaises(BadWords):
                    costs(P, W, wanted)


class NeverPut(unittest.TestCase):
    def check(self, one, words, texts):
        with self.subTest(way=one, words=words):
            self.assertEqual(never_put(one, words), texts)

    def test_texts(self):
        self.check(P, W, [])
        self.check(Q, W, [])
        always = way(accept="always")
        self.check(always, ["b"], [])
        self.check(always, ["ab"], ["a"])
        self.check(always, ["aba"], ["a", "ab"])
        self.check(way(accept="always", back="offer"), ["aba"], [])
        self.check(way(accept="always", back="both"), ["aba"], [])
        self.check(way("common", accept="always"), ["bb", "aba"], ["a", "b", "ab"])
        self.check(way(since=2, accept="always"), ["aba"], ["ab"])

    def test_in_order(self):
        self.check(way(accept="always"), ["aaa", "bba", "aba"], ["a", "b", "aa", "ab", "bb"])
        self.check(way(accept="always"), ["bab", "aab"], ["a", "b", "aa", "ba"])

    def test_by_states(self):
        for one, words in product(all_ways()[::9] + DRAWN, [["aba", "ab"], W]):
            puts = {put for steps in steps_of(one, words, 1).values() for _, put in steps}
            self.check(one, words, [text for text in all_texts() if text not in puts])


class Saved(unittest.TestCase):
    def check(self, one, words, fraction):
        with self.subTest(way=one, words=words):
            found = saved(one, words)
            self.assertEqual(found, fraction)
            self.assertIs(type(found), tuple)
            self.assertEqual([type(number) for number in found], [int, int])

    def test_above_0(self):
        self.check(P, ["aab"], (1, 1))
        self.check(P, ["abb", "ba"], (1, 2))
        self.check(way(accept="always"), ["ab"], (1, 1))
        self.check(way(accept="always"), ["aba"], (2, 1))
        self.check(way(accept="always"), ["aaa", "bba", "aba"], (5, 3))
        self.check(P, ["baa", "ab", "aaa"], (1, 3))
        self.check(way("common", accept="always"), ["bb", "aba"], (3, 2))

    def test_0(self):
        self.check(P, W, (0, 1))
        self.check(P, ["b"], (0, 1))
        self.check(P, ["bb"], (0, 1))
        self.check(way(since=2), ["ab", "ba"], (0, 1))

    def test_below_0(self):
        # Once the offer is turned away, "ba" takes a key more than its letters.
        self.check(("short", 2, "always", "next", "both", 1), ["bab", "ba"], (-1, 2))
        self.check(("short", 2, "always", "next", "both", 0), ["abb", "aa", "ab"], (-1, 3))
        self.check(("common", 1, "always", "stay", "both", 0), ["bbb", "b", "bba"], (-2, 3))

    def test_not_found(self):
        for one, words in [
            (way(accept="always"), ["a", "aaa"]), (way(accept="always"), ["ab", "a"]),
            (way(accept="always"), ["aba", "ab"]), (way("common", accept="always"), ["aba", "a"]),
        ]:
            with self.subTest(way=one, words=words):
                with self.assertRaises(NotFound):
                    saved(one, words)

    def test_by_states(self):
        for one, words in product(all_ways()[::5], [["aba", "ab"], W, ["bba", "bbb"]]):
            fewest = fewest_keys_from(one, words, state_after(one, words, []))
            if all(word in fewest for word in words):
                mean = Fraction(
                    sum(len(word) + 1 - fewest[word] for word in words), len(words))
                self.check(one, words, (mean.numerator, mean.denominator))
            else:
                with self.assertRaises(NotFound):
                    saved(one, words)


class Costs(unittest.TestCase):
    def check(self, one, words, wanted, expected):
        with self.subTest(way=one, words=words, wanted=wanted):
            found = costs(one, words, wanted)
            self.assertEqual(found, expected)
            self.assertIs(type(found), tuple)

    def test_one_order(self):
        self.check(P, W, "aba", (4, 4))
        self.check(P, W, "abab", (5, 5))
        self.check(way(accept="always"), ["ab"], "ab", (2, 2))
        self.check(way(accept="always", back="offer"), ["ab"], "a", (3, 3))

    def test_orders_that_are_learned(self):
        one = way(accept="blank", learn=1)
        self.check(one, ["ab", "aa"], "ab", (2, 3))
        self.check(one, ["ab", "aa"], "aa", (2, 3))
        self.check(one, ["ab", "aa"], "bb", (3, 3))
        self.check(one, ["aaa", "aab", "ab"], "aab", (2, 4))
        self.check(way(learn=1), ["abb", "aaa"], "aaa", (3, 4))
        self.check(way(learn=0), ["abb", "aaa"], "aaa", (4, 4))

    def test_never_put_in(self):
        self.check(way(accept="always"), ["aba"], "ab", (None, None))
        self.check(FIRST_LEARNED, ["aba"], "a", (None, None))

    def test_not_put_in_behind_some_rows(self):
        # With "aaa" learned, blank makes "aaa" of each "a" and "aa": "aa" is put in no more.
        self.check(FIRST_LEARNED, ["aa", "aaa"], "aa", (2, None))
        self.check(FIRST_LEARNED, ["aa", "aaa"], "aaa", (2, 3))
        self.check(FIRST_LEARNED, ["aaa", "aa"], "aa", (None, None))

    def test_by_states(self):
        for one, words in product(DRAWN, LISTS[1:]):
            empty = [state for state in steps_of(one, words, 1) if state[0] == ""]
            fewest = [fewest_keys_from(one, words, state) for state in empty]
            for wanted in all_texts():
                found = [keys.get(wanted) for keys in fewest]
                known = [many for many in found if many is not None]
                most = None if None in found else max(known)
                self.check(one, words, wanted, (min(known, default=None), most))


if __name__ == "__main__":
    unittest.main()
