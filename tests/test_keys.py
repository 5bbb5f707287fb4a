"""[2]: keys and rows."""

import unittest

from fieldoffers.keys import all_keys, is_key, is_row
from tests.samples import OTHER_KINDS, WRONG_ROWS, Agreeable


class Keys(unittest.TestCase):
    def test_all_keys_in_order(self):
        self.assertEqual(all_keys(), ["a", "b", "tab", "blank", "back", "end"])

    def test_all_keys_is_new_each_time(self):
        keys = all_keys()
        keys.reverse()
        keys.append("c")
        self.assertEqual(all_keys(), ["a", "b", "tab", "blank", "back", "end"])

    def test_each_key_is_one(self):
        for key in ["a", "b", "tab", "blank", "back", "end"]:
            with self.subTest(key=key):
                self.assertIs(is_key(key), True)

    def test_other_strings(self):
        for value in ["", "c", "A", "ab", "ta", "tabs", "Tab", " ", "enter", "a ", "b\n"]:
            with self.subTest(value=value):
                self.assertIs(is_key(value), False)

    def test_other_kinds(self):
        more = [0, 1, [], ["a"], ("tab",), b"tab", {"a"}, {"a": 1}, Agreeable()]
        for value in OTHER_KINDS + more:
            with self.subTest(value=value):
                self.assertIs(is_key(value), False)


class Rows(unittest.TestCase):
    def test_rows(self):
        rows = [
            [], ["a"], ["end"], ["a", "a"], ["a", "b", "tab", "blank", "back", "end"],
            ["tab"] * 39, ["back"] * 40, ["a", "blank"] * 20,
        ]
        for row in rows:
            with self.subTest(row=row):
                self.assertIs(is_row(row), True)

    def test_more_than_40_keys(self):
        self.assertIs(is_row(["back"] * 41), False)
        self.assertIs(is_row(["a"] * 80), False)

    def test_other_kinds(self):
        for value in WRONG_ROWS:
            with self.subTest(value=value):
                self.assertIs(is_row(value), False)

    def test_one_wrong_key_at_each_place(self):
        for at in range(40):
            row = ["a"] * 40
            row[at] = "c"
            with self.subTest(at=at):
                self.assertIs(is_row(row), False)

    def test_the_row_is_as_it_was(self):
        row = ["tab", "a", "tab"]
        is_row(row)
        self.assertEqual(row, ["tab", "a", "tab"])


if __name__ == "__main__":
    unittest.main()
