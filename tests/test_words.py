"""[1]: texts, words, lists and their orders."""

import unittest
from itertools import product

from fieldoffers.words import all_texts, is_list, is_text, small_lists
from tests.samples import OTHER_KINDS, WRONG_LISTS, Agreeable


class Texts(unittest.TestCase):
    def test_texts_of_each_length(self):
        for length in range(5):
            for letters in product("ab", repeat=length):
                text = "".join(letters)
                with self.subTest(text=text):
                    self.assertIs(is_text(text), True)

    def test_longer_strings_are_no_texts(self):
        for value in ["aaaaa", "ababa", "b" * 6, "ab" * 50]:
            with self.subTest(value=value):
                self.assertIs(is_text(value), False)

    def test_other_letters(self):
        for value in ["c", "A", "aB", "a b", " ", "ab\n", "abc", "1", "\u0430", "a,b", "\x00"]:
            with self.subTest(value=value):
                self.assertIs(is_text(value), False)

    def test_other_kinds(self):
        more = [0, 1, [], ["a"], ["a", "b"], ("a", "b"), b"ab", {"a"}, {"a": "b"}, Agreeable()]
        for value in OTHER_KINDS + more:
            with self.subTest(value=value):
                self.assertIs(is_text(value), False)


class Lists(unittest.TestCase):
    def test_words_of_1_and_3_letters(self):
        for value in [["a"], ["b"], ["aaa"], ["bab"], ["ab"]]:
            with self.subTest(value=value):
                self.assertIs(is_list(value), True)

    def test_words_of_0_and_4_letters(self):
        for value in [[""], ["aaaa"], ["ab", ""], ["", "ab"], ["abab", "b"], ["b", "abab"]]:
            with self.subTest(value=value):
                self.assertIs(is_list(value), False)

    def test_1_and_3_words(self):
        for value in [["b"], ["b", "a"], ["ab", "aba", "b"], ["bbb", "a", "bb"]]:
            with self.subTest(value=value):
                self.assertIs(is_list(value), True)

    def test_0_and_4_words(self):
        self.assertIs(is_list([]), False)
        self.assertIs(is_list(["a", "b", "aa", "ab"]), False)

    def test_a_word_twice(self):
        for value in [["a", "a"], ["a", "b", "a"], ["ab", "ab", "b"], ["b", "ab", "ab"]]:
            with self.subTest(value=value):
                self.assertIs(is_list(value), False)

    def test_other_kinds(self):
        for value in WRONG_LISTS:
            with self.subTest(value=value):
                self.assertIs(is_list(value), False)

    def test_the_list_is_as_it_was(self):
        value = ["b", "ab", "a"]
        is_list(value)
        self.assertEqual(value, ["b", "ab", "a"])


class AllOfThem(unittest.TestCase):
    def test_all_texts(self):
        self.assertEqual(all_texts(), [
            "a", "b", "aa", "ab", "ba", "bb",
            "aaa", "aab", "aba", "abb", "baa", "bab", "bba", "bbb",
            "aaaa", "aaab", "aaba", "aabb", "abaa", "abab", "abba", "abbb",
            "baaa", "baab", "baba", "babb", "bbaa", "bbab", "bbba", "bbbb",
        ])

    def test_small_lists_number(self):
        self.assertEqual(len(small_lists()), 196)

    def test_small_lists_of_one_word_come_first(self):
        self.assertEqual(small_lists()[:14], [
            ["a"], ["b"], ["aa"], ["ab"], ["ba"], ["bb"],
            ["aaa"], ["aab"], ["aba"], ["abb"], ["baa"], ["bab"], ["bba"], ["bbb"],
        ])

    def test_small_lists_of_two_words(self):
        lists = small_lists()
        self.assertEqual(lists[14:18], [["a", "b"], ["a", "aa"], ["a", "ab"], ["a", "ba"]])
        self.assertEqual(lists[26:30], [["a", "bbb"], ["b", "a"], ["b", "aa"], ["b", "ab"]])
        self.assertEqual(lists[-2:], [["bbb", "bab"], ["bbb", "bba"]])

    def test_small_lists_are_the_lists_of_1_or_2_words_ascending(self):
        words = [text for text in all_texts() if len(text) < 4]
        made = [list(one) for one in product(words)] + [list(two) for two in product(words, words)]
        self.assertEqual(small_lists(), [value for value in made if is_list(value)])
        keys = [(len(one), [(len(word), word) for word in one]) for one in small_lists()]
        self.assertEqual(keys, sorted(keys))

    def test_returned_lists_are_new(self):
        texts = all_texts()
        texts.clear()
        self.assertEqual(len(all_texts()), 30)
        lists = small_lists()
        lists[0].append("b")
        lists[14].clear()
        lists.pop()
        self.assertEqual(len(small_lists()), 196)
        self.assertEqual(small_lists()[0], ["a"])
        self.assertEqual(small_lists()[14], ["a", "b"])


if __name__ == "__main__":
    unittest.main()
