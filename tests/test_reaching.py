"""[4]: the states that rows lead to; reaching.py."""

import unittest
from itertools import product

from fieldoffers.errors import NotFound
from fieldoffers.keys import all_keys
from fieldoffers.reaching import count_states, idle_keys, row_to
from fieldoffers.running import state_after
from tests.samples import P, Q, W, way

ORDER = tuple(W)


def states_by_trial(one, words, most):
    """Give each state the first row to it, by trying rows of up to so many keys."""
    rows = {}
    for length in range(most + 1):
        for row in product(all_keys(), repeat=length):
            rows.setdefault(state_after(one, words, list(row)), list(row))
    return rows


class CountStates(unittest.TestCase):
    def test_texts_and_what_is_put_in(self):
        # 31 texts, and behind each of the 30 texts put in an empty field.
        self.assertEqual(count_states(P, ["b"]), 61)
        self.assertEqual(count_states(way(since=2), ["ab"]), 61)

    def test_quiet_texts(self):
        # 14 texts of 1 to 3 letters are also left quiet by back.
        self.assertEqual(count_states(way(back="both"), ["b"]), 75)
        self.assertEqual(count_states(way(back="offer"), ["b"]), 75)

    def test_offers_that_tab_took(self):
        self.assertEqual(count_states(P, ["ab"]), 62)
        self.assertEqual(count_states(P, W), 63)
        self.assertEqual(count_states(way(again="next"), ["ab", "aa"]), 63)
        self.assertEqual(count_states(way(again="stay"), ["ab", "aa"]), 62)

    def test_orders(self):
        # 31 texts and 28 unknown ones put in by 2 orders, a word put in by one.
        self.assertEqual(count_states(way(learn=1), ["a", "b"]), 120)
        self.assertEqual(count_states(way(learn=0), ["a", "b"]), 61)

    def test_by_trial(self):
        for one in [P, way(back="both"), way(choice="common", accept="always", back="offer")]:
            for words in [["ab"], ["a"]]:
                with self.subTest(way=one, words=words):
                    self.assertEqual(count_states(one, words), len(states_by_trial(one, words, 6)))


class RowTo(unittest.TestCase):
    def test_first_state(self):
        self.assertEqual(row_to(P, W, ("", "", 0, ORDER, "")), [])
        self.assertEqual(row_to(Q, ["b"], ("", "", 0, ("b",), "")), [])

    def test_first_of_the_shortest_rows(self):
        cases = [
            (P, ("a", "", 0, ORDER, ""), ["a"]),
            (P, ("ab", "a", 1, ORDER, ""), ["a", "tab"]),
            (P, ("", "", 0, ORDER, "a"), ["a", "blank"]),
            (P, ("", "", 0, ORDER, "ab"), ["a", "b", "blank"]),
            (P, ("aba", "ab", 1, ORDER, ""), ["a", "b", "tab"]),
            (P, ("", "", 0, ORDER, "aba"), ["a", "b", "a", "blank"]),
            (way(accept="always"), ("", "", 0, ORDER, "ab"), ["a", "blank"]),
            (way(accept="blank"), ("", "", 0, ORDER, "a"), ["a", "end"]),
            (way(back="both"), ("a", "", 1, ORDER, ""), ["a", "a", "back"]),
            (way(back="offer"), ("a", "", 1, ORDER, ""), ["a", "back"]),
            (way(learn=1), ("", "", 0, ("b", "ab", "aba"), ""), ["b", "blank", "tab"]),
            (way(learn=1), ("b", "", 0, ("b", "ab", "aba"), ""), ["b", "blank", "b"]),
            (P, ("baab", "", 0, ORDER, ""), ["b", "a", "a", "b"]),
        ]
        for one, state, row in cases:
            with self.subTest(way=one, state=state):
                self.assertEqual(row_to(one, W, state), row)

    def test_by_trial(self):
        for one in [P, way(back="both", again="next"), way("common", 2, "always", back="offer")]:
            for words in [["ab"], ["bab", "ba"]]:
                rows = states_by_trial(one, words, 5)
                for state in rows:
                    with self.subTest(way=one, words=words, state=state):
                        self.assertEqual(row_to(one, words, state), rows[state])

    def test_states_that_no_row_leads_to(self):
        states = [
            ("ab", "", 1, ORDER, ""),
            ("a", "", 0, ("b", "ab", "aba"), ""),
            ("a", "", 0, ORDER, "b"),
            ("", "", 1, ORDER, ""),
            ("", "a", 0, ORDER, ""),
            ("bb", "b", 1, ORDER, ""),
            ("ab", "a", 0, ORDER, ""),
            ("abbb", "abbb", 1, ("aba", "b", "ab"), "abbb"),
        ]
        for state in states:
            with self.subTest(state=state):
                with self.assertRaises(NotFound):
                    row_to(P, W, state)
                with self.assertRaises(NotFound):
                    idle_keys(P, W, state)

    def test_words_that_are_learned_alone_change_the_order(self):
        order = ("aba", "ab", "b")
        self.assertEqual(
            row_to(way(learn=1), W, ("", "", 0, order, "aba")), ["a", "b", "a", "blank"])
        with self.assertRaises(NotFound):
            row_to(way(learn=1), W, ("", "", 0, order, "ab"))

    def test_the_list_is_new_each_time(self):
        state = ("ab", "a", 1, ORDER, "")
        row_to(P, W, state).append("end")
        self.assertEqual(row_to(P, W, state), ["a", "tab"])
        row_to(P, W, ("", "", 0, ORDER, "")).append("end")
        self.assertEqual(row_to(P, W, ("", "", 0, ORDER, "")), [])
        self.assertEqual(row_to(P, W, state), ["a", "tab"])


class IdleKeys(unittest.TestCase):
    def test_keys_in_order(self):
        cases = [
            (P, W, ("", "", 0, ORDER, ""), ["tab", "blank", "back", "end"]),
            (P, W, ("a", "", 0, ORDER, ""), []),
            (P, W, ("b", "", 0, ORDER, ""), ["tab"]),
            (P, W, ("aaaa", "", 0, ORDER, ""), ["a", "b", "tab"]),
            (P, W, ("ab", "a", 1, ORDER, ""), ["tab"]),
            (P, W, ("", "", 0, ORDER, "b"), []),
            (way(again="next"), ["ab", "aa"], ("ab", "a", 1, ("ab", "aa"), ""), []),
            (way(again="next"), ["ab"], ("ab", "a", 1, ("ab",), ""), ["tab"]),
            (way(again="next"), W, ("bbbb", "", 0, ORDER, ""), ["a", "b", "tab"]),
            (way(back="both"), W, ("a", "", 1, ORDER, ""), ["tab"]),
        ]
        for one, words, state, keys in cases:
            with self.subTest(way=one, words=words, state=state):
                self.assertEqual(idle_keys(one, words, state), keys)

    def test_by_trial(self):
        for one in [P, way(again="next", back="both"), way("short", 1, "blank", "next", "offer")]:
            words = ["ab", "aa"]
            rows = states_by_trial(one, words, 4)
            for state in rows:
                keys = [
                    key for key in all_keys()
                    if state_after(one, words, rows[state] + [key]) == state
                ]
                with self.subTest(way=one, state=state):
                    self.assertEqual(idle_keys(one, words, state), keys)

    def test_the_list_is_new_each_time(self):
        idle_keys(P, W, ("b", "", 0, ORDER, "")).clear()
        self.assertEqual(idle_keys(P, W, ("b", "", 0, ORDER, "")), ["tab"])


if __name__ == "__main__":
    unittest.main()
