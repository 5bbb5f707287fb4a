"""texts.py: ways, rows and lists of words as texts."""

import unittest
from itertools import permutations, product

from fieldoffers.errors import BadKeys, BadText, BadWay, BadWords
from fieldoffers.keys import all_keys
from fieldoffers.texts import (
    format_list, format_row, format_way, parse_list, parse_row, parse_way,
)
from fieldoffers.ways import all_ways
from fieldoffers.words import small_lists
from tests.samples import (
    NO_STRINGS, OTHER_KINDS, P, Q, W, WRONG_LISTS, WRONG_ROWS, WRONG_WAYS,
)

PARSERS = [parse_way, parse_row, parse_list]



class Ways(unittest.TestCase):
    def test_format(self):
        self.assertEqual(format_way(P), "first 1 tab stay letter 0")
        self.assertEqual(format_way(Q), "common 2 always next offer 1")

    def test_there_and_back(self):
        texts = [format_way(one) for one in all_ways()]
        self.assertEqual(len(set(texts)), 216)
        for one, text in zip(all_ways(), texts):
            found = parse_way(text)
            self.assertEqual(found, one)
            self.assertEqual([type(item) for item in found], [str, int, str, str, str, int])
            self.assertIs(type(found), tuple)

    def test_wrong_ways(self):
        for value in WRONG_WAYS:
            with self.subTest(value=value):
                with self.assertRaises(BadWay):
                    format_way(value)

    def test_wrong_texts(self):
        text = format_way(P)
        texts = [
            "", " ", text + " ", " " + text, text + "\n", "\n" + text, "\t" + text,
            text.replace(" ", "  ", 1), text.replace(" ", "\t"), text.replace(" ", ","),
            text.replace(" ", ""), text.upper(), text.title(), text.replace("f", "F"),
            text[:-2], text + " 0", text + " " + text, text[6:],
            "first 01 tab stay letter 0", "first +1 tab stay letter 0",
            "first 1 tab stay letter 00", "first 1 tab stay letter +0",
            "first 1 tab stay letter -0", "first 1.0 tab stay letter 0",
            "first 1 tab stay letter 2", "first 1 tab stay letter 1_0",
            "first 0 tab stay letter 0", "first 3 tab stay letter 0", "first -1 tab stay letter 0",
            "first one tab stay letter 0", "first True tab stay letter False",
            "first \u0661 tab stay letter 0", "first 1 tab stay letter \u0660",
            "last 1 tab stay letter 0", "first 1 end stay letter 0", "first 1 tab back letter 0",
            "first 1 tab stay none 0", "1 first tab stay letter 0", "1 1 tab stay letter 0",
            "first 1 1 stay letter 0", "first 1 tab stay 0 letter",
            "('first', 1, 'tab', 'stay', 'letter', 0)", "first 1 tab stay letter",
        ]
        for value in texts + [value for value in OTHER_KINDS if isinstance(value, str)]:
            with self.subTest(value=value):
                with self.assertRaises(BadText):
                    parse_way(value)


class Rows(unittest.TestCase):
    def test_format(self):
        self.assertEqual(format_row(["a", "tab", "end"]), "a,tab,end")
        self.assertEqual(format_row([]), "")
        self.assertEqual(format_row(["blank"]), "blank")

    def test_there_and_back(self):
        rows = [list(row) for many in range(4) for row in product(all_keys(), repeat=many)]
        rows += [["tab"] * 40, all_keys() * 6, ["end", "a"] * 20, ["back"] * 39]
        for row in rows:
            found = parse_row(format_row(row))
            self.assertEqual(found, row)
            self.assertIs(type(found), list)

    def test_wrong_rows(self):
        for value in WRONG_ROWS:
            with self.subTest(value=value):
                with self.assertRaises(BadKeys):
                    format_row(value)

    def test_wrong_texts(self):
        texts = [
            " ", ",", "a,", ",a", "a,,tab", "a, tab", "a ,tab", " a,tab", "a,tab ", "a,tab\n",
            "a tab", "a;tab", "A", "Tab", "a,TAB", "c", "a,c", "ab", "a,enter", "a.tab",
            ",".join(["a"] * 41), ",".join(["tab"] * 80), ",".join(["a"] * 40) + ",",
            "['a', 'tab']", "\n", "0", "a,0",
        ]
        for value in texts:
            with self.subTest(value=value):
                with self.assertRaises(BadText):
                    parse_row(value)


class Lists(unittest.TestCase):
    def test_format(self):
        self.assertEqual(format_list(W), "ab aba b")
        self.assertEqual(format_list(["b"]), "b")

    def test_there_and_back(self):
        words = ["a", "b", "ab", "ba", "aab", "bbb"]
        lists = small_lists() + [list(three) for three in permutations(words, 3)]
        for words in lists:
            found = parse_list(format_list(words))
            self.assertEqual(found, words)
            self.assertIs(type(found), list)

    def test_wrong_lists(self):
        for value in WRONG_LISTS:
            with self.subTest(value=value):
                with self.assertRaises(BadWords):
                    format_list(value)

    def test_wrong_texts(self):
        texts = [
            "", " ", "  ", "ab ", " ab", "ab  b", "ab,b", "ab, b", "ab b ", "ab\tb", "ab\n", "\nab",
            "AB", "Ab b", "c", "ab c", "abab", "ab aaaa", "ab ab", "b ab b", "a b aa ab", "0",
            "ab 0", "['ab']", "\u0430", "ab-b",
        ]
        for value in texts:
            with self.subTest(value=value):
                with self.assertRaises(BadText):
                    parse_list(value)


class NoStrings(unittest.TestCase):
    def test_each_function(self):
        for function in PARSERS:
            for value in NO_STRINGS:
                with self.subTest(function=function.__name__, value=value):
                    with self.assertRaises(BadText):
                        function(value)

    def test_texts_of_another_kind(self):
        for function, text in [
            (parse_way, "a,tab"), (parse_way, "ab b"), (parse_row, "ab b"),
            (parse_row, format_way(P)), (parse_list, "a,tab"), (parse_list, format_way(P)),
            (parse_way, ""), (parse_list, ""),
        ]:
            with self.subTest(function=function.__name__, text=text):
                with self.assertRaises(BadText):
                    function(text)

    def test_returned_lists_are_new(self):
        for function, text, expected in [
            (parse_row, "a,tab", ["a", "tab"]), (parse_row, "", []), (parse_list, "ab b", ["ab", "b"]),
        ]:
            function(text).append("c")
            self.assertEqual(function(text), expected)


if __name__ == "__main__":
    unittest.main()
