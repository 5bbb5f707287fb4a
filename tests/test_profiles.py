"""[8]: profiles, of which ways have one if, and only if, they are alike."""

import unittest

from fieldoffers.blocks import Blocks
from fieldoffers.machines import texts_ahead
from fieldoffers.profiles import profile_of
from fieldoffers.ways import all_ways
from tests.samples import P, Q, way

LISTS = [
    ["b"], ["aba"], ["a", "ab"], ["ab", "a"], ["aa", "aaa"], ["aab", "aa"], ["ab", "aa"],
    ["abb", "aba"], ["bab", "abb"], ["bbb", "bab"],
]


class Profiles(unittest.TestCase):
    def test_one_profile_for_ways_that_are_alike_and_no_others(self):
        for at, words in enumerate(LISTS):
            profiles = [profile_of(one, words) for one in all_ways()]
            firsts = [profiles.index(profile) for profile in profiles]
            blocks = Blocks(all_ways(), words, at % 2).starts
            with self.subTest(words=words):
                self.assertEqual(firsts, [blocks.index(block) for block in blocks])

    def test_offers_by_text(self):
        for one, words, offers in [
            (P, ["a", "b"], [{}]),
            (P, ["ab", "aba"], [{"a": ("ab", "ab"), "ab": ("aba", "aba")}]),
            (Q, ["ab", "aba"], [{"ab": ("aba", "aba")}]),
            (way(again="next"), ["ab", "aa"], [{"a": ("ab", "aa", "ab")}]),
            (way("short", again="next"), ["aba", "aa"],
             [{"a": ("aa", "aba", "aa"), "ab": ("aba", "aba")}]),
            (way("common", again="next"), ["aab", "aaa"],
             [{"a": ("aa", "aab", "aaa", "aab")}]),
            (way(learn=1), ["ab", "aa"], [{"a": ("ab", "ab")}, {"a": ("aa", "aa")}]),
            (way(learn=1), ["ab", "ba"], [{"a": ("ab", "ab"), "b": ("ba", "ba")}]),
            # "aa" is never put in: blank and end make "aaa" of it.
            (way(accept="always", learn=1), ["aaa", "aa"],
             [{"a": ("aaa", "aaa"), "aa": ("aaa", "aaa")}]),
        ]:
            with self.subTest(way=one, words=words):
                self.assertEqual(profile_of(one, words)[2], offers)

    def test_texts_looked_at(self):
        self.assertEqual(texts_ahead("", ["ab"]), ["a", "b"])
        self.assertEqual(texts_ahead("", ["ba"]), ["a", "b"])
        self.assertEqual(texts_ahead("ab", ["ab"]), ["aba"])
        self.assertEqual(texts_ahead("ab", ["ab", "abb"]), ["aba", "abb"])
        self.assertEqual(texts_ahead("abb", ["ab", "abb"]), ["abba"])
        self.assertEqual(texts_ahead("b", ["ab"]), [])


if __name__ == "__main__":
    unittest.main()
