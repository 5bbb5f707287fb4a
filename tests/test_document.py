"""The whole document: the examples of the interface, and what holds for all functions."""

import unittest

from fieldoffers.desks import Desk
from fieldoffers.meaning import typed, wrongs
from fieldoffers.putting import row_for
from fieldoffers.reaching import count_states
from fieldoffers.running import put_in, state_after, states_along, views_of
from fieldoffers.seeing import count_rows
from fieldoffers.telling import telling_row
from fieldoffers.texts import format_row, format_way
from fieldoffers.ways import all_ways
from fieldoffers.words import all_texts, small_lists
from tests.samples import P, Q, W


class Examples(unittest.TestCase):
    def test_running(self):
        self.assertEqual(put_in(P, W, ["a", "tab", "end", "b", "blank"]), ["ab", "b"])

    def test_seeing(self):
        self.assertEqual(count_rows(P, W, 1, ["", "a"]), 2)

    def test_telling(self):
        self.assertEqual(telling_row(P, Q, W, 0), ["a"])

    def test_putting(self):
        self.assertEqual(row_for(P, W, [], "aba"), ["a", "b", "a", "blank"])

    def test_meaning(self):
        self.assertEqual(wrongs(Q, W, "end"), ["ab"])

    def test_texts(self):
        self.assertEqual(format_way(P), "first 1 tab stay letter 0")
        self.assertEqual(format_row(["a", "tab", "end"]), "a,tab,end")
        self.assertEqual(format_row([]), "")

    def test_numbers_of_things(self):
        self.assertEqual(len(all_ways()), 216)
        self.assertEqual(len(all_texts()), 30)
        self.assertEqual(len(small_lists()), 196)


class OneRowByAllFunctions(unittest.TestCase):
    """The same keys by a desk, by running and by meaning, for each of the ways."""

    ROW = ["a", "tab", "tab", "back", "a", "blank", "b", "tab", "end", "a", "b", "back", "a", "end"]

    def test_desks_and_running(self):
        for one in all_ways():
            for words in [W, ["aba", "ab"]]:
                desks = [Desk(one, words, sight) for sight in [0, 1]]
                views = [[desk.press(key) for key in self.ROW] for desk in desks]
                with self.subTest(way=one, words=words):
                    for sight in [0, 1]:
                        self.assertEqual(views[sight], views_of(one, words, sight, self.ROW))
                    self.assertEqual(desks[0].state(), states_along(one, words, self.ROW)[-1])
                    self.assertEqual(desks[1].state(), state_after(one, words, self.ROW))
                    self.assertEqual(
                        put_in(one, words, self.ROW), [put for put in views[1] if put != ""])

    def test_meaning_and_desks(self):
        for one in all_ways():
            for wanted in ["a", "ab", "bab", "abba"]:
                for key in ["blank", "end"]:
                    desk = Desk(one, W, 1)
                    for letter in wanted:
                        desk.press(letter)
                    with self.subTest(way=one, wanted=wanted, key=key):
                        self.assertEqual(desk.press(key), typed(one, W, wanted, key))

    def test_a_full_field_takes_no_letter(self):
        for one in all_ways():
            desk = Desk(one, W, 0)
            for letter in "bbbb":
                desk.press(letter)
            state = desk.state()
            for key in ["a", "b", "tab"]:
                self.assertEqual(desk.press(key), ("bbbb", "", ""))
                self.assertEqual(desk.state(), state)
            self.assertEqual(desk.press("end"), ("", "", "bbbb"))
            self.assertGreater(count_states(one, W), 31)


if __name__ == "__main__":
    unittest.main()
