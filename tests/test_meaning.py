"""meaning.py: what is put in for a text typed letter by letter."""

import unittest
from itertools import product

from fieldoffers.errors import BadKeys, BadWords, NotFound
from fieldoffers.meaning import first_wrong, typed, wrongs
from fieldoffers.running import put_in
from fieldoffers.ways import all_ways
from fieldoffers.words import all_texts
from tests.samples import NO_ENDING_KEYS, P, Q, W, WRONG_WANTED, way

LISTS = [["b"], ["ab"], ["aba", "ab"], W, ["abb", "aba", "b"]]



class Typed(unittest.TestCase):
    def check(self, one, words, wanted, key, expected):
        with self.subTest(way=one, words=words, wanted=wanted, key=key):
            self.assertEqual(typed(one, words, wanted, key), expected)

    def test_both_keys(self):
        cases = [
            (way(), "a", "a", "a"),
            (way(accept="blank"), "a", "ab", "a"),
            (way(accept="always"), "a", "ab", "ab"),
            (way(accept="always"), "ab", "aba", "aba"),
            (way(accept="always"), "aba", "aba", "aba"),
            (way(accept="always"), "b", "b", "b"),
            (way(accept="always"), "bb", "bb", "bb"),
            (way("common", accept="always"), "a", "ab", "ab"),
            (way(since=2, accept="always"), "a", "a", "a"),
            (way(since=2, accept="blank"), "ab", "aba", "ab"),
            (way("short", accept="blank"), "abab", "abab", "abab"),
        ]
        for one, wanted, blank, end in cases:
            self.check(one, W, wanted, "blank", blank)
            self.check(one, W, wanted, "end", end)

    def test_choices(self):
        words = ["abb", "ab", "aa"]
        for choice, expected in [("first", "abb"), ("short", "ab"), ("common", "a")]:
            self.check(way(choice, accept="always"), words, "a", "end", expected)

    def test_by_keys(self):
        for one, words in product(all_ways()[::5], LISTS):
            for wanted, key in product(all_texts(), ["blank", "end"]):
                self.check(one, words, wanted, key, put_in(one, words, [*wanted, key])[0])

    def test_other_keys(self):
        for key in NO_ENDING_KEYS:
            with self.subTest(key=key):
                with self.assertRaises(BadKeys):
                    typed(P, W, "ab", key)
                with self.assertRaises(BadKeys):
                    wrongs(P, W, key)
                with self.assertRaises(BadKeys):
                    first_wrong(P, W, key)

    def test_wrong_wanted_texts(self):
        for wanted in WRONG_WANTED:
            for key in ["end", "tab"]:
                with self.subTest(wanted=wanted, key=key):
                    with self.assertRaises(BadWords):
                        typed(P, W, wanted, key)


class Wrongs(unittest.TestCase):
    def check(self, one, words, key, texts):
        with self.subTest(way=one, words=words, key=key):
            self.assertEqual(wrongs(one, words, key), texts)
            if texts:
                self.assertEqual(first_wrong(one, words, key), texts[0])
            else:
                with self.assertRaises(NotFound):
                    first_wrong(one, words, key)

    def test_example(self):
        self.check(Q, W, "end", ["ab"])

    def test_in_order(self):
        always = way(accept="always")
        for key in ["blank", "end"]:
            self.check(always, W, key, ["a", "ab"])
            self.check(always, ["bab", "aa"], key, ["a", "b", "ba"])
            self.check(always, ["aaa", "bba", "aba"], key, ["a", "b", "aa", "ab", "bb"])
            self.check(way(since=2, accept="always"), ["bab", "aab"], key, ["aa", "ba"])
        self.check(way(accept="blank"), W, "blank", ["a", "ab"])

    def test_none(self):
        for key in ["blank", "end"]:
            self.check(P, W, key, [])
            self.check(Q, ["b"], key, [])
            self.check(way("common", accept="always"), ["ab", "aa"], key, [])
            self.check(way(since=2, accept="always"), ["ab", "ba"], key, [])
        self.check(way(accept="blank"), W, "end", [])

    def test_by_keys(self):
        for one, words in product(all_ways()[::7], LISTS):
            for key in ["blank", "end"]:
                self.check(one, words, key, [
                    text for text in all_texts() if put_in(one, words, [*text, key]) != [text]])


if __name__ == "__main__":
    unittest.main()
