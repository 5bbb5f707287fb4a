"""[4] to [7]: states, offers, what each key does, views; and running.py."""

import unittest
from itertools import product

from fieldoffers.running import put_in, state_after, states_along, views_of
from fieldoffers.ways import all_ways
from tests.samples import P, Q, W, way


class FirstState(unittest.TestCase):
    def test_of_every_way(self):
        for one in all_ways():
            with self.subTest(way=one):
                self.assertEqual(state_after(one, W, []), ("", "", 0, ("ab", "aba", "b"), ""))

    def test_order_is_that_of_the_list(self):
        self.assertEqual(state_after(P, ["b", "aba"], []), ("", "", 0, ("b", "aba"), ""))
        self.assertEqual(state_after(P, ["bbb"], []), ("", "", 0, ("bbb",), ""))


class Offers(unittest.TestCase):
    """[5]"""

    def offer(self, one, words, row):
        return views_of(one, words, 0, row)[-1][1]

    def check(self, one, cases):
        for words, row, offer in cases:
            with self.subTest(way=one, words=words, row=row):
                self.assertEqual(self.offer(one, words, row), offer)

    def test_first(self):
        self.check(way(choice="first"), [
            (["ab", "aba", "b"], ["a"], "b"),
            (["aba", "ab", "b"], ["a"], "ba"),
            (["b", "aab", "ab"], ["a"], "ab"),
            (["ab", "aba", "b"], ["a", "b"], "a"),
            (["bab", "ba"], ["b"], "ab"),
        ])

    def test_short(self):
        self.check(way(choice="short"), [
            (["aba", "ab", "b"], ["a"], "b"),
            (["aab", "ab", "aa"], ["a"], "b"),
            (["aab", "aa", "ab"], ["a"], "a"),
            (["abb", "aab"], ["a"], "bb"),
            (["a", "aab"], ["a"], "ab"),
            (["ba", "aab"], ["a"], "ab"),
        ])

    def test_common(self):
        self.check(way(choice="common"), [
            (["aba"], ["a"], "ba"),
            (["aba", "abb"], ["a"], "b"),
            (["aba", "ab"], ["a"], "b"),
            (["ab", "aba"], ["a"], "b"),
            (["aba", "abb", "ab"], ["a"], "b"),
            (["aab", "aaa", "aa"], ["a"], "a"),
            (["aba", "b", "ba"], ["a"], "ba"),
            (["aba", "ab"], ["a", "b"], "a"),
        ])

    def test_common_may_be_none(self):
        self.check(way(choice="common"), [
            (["ab", "aa"], ["a"], ""),
            (["aba", "abb", "aab"], ["a"], ""),
            (["aba", "abb"], ["a", "b"], ""),
        ])

    def test_no_word_fits(self):
        for choice in ["first", "short", "common"]:
            self.check(way(choice=choice), [
                (["b"], ["a"], ""),
                (["ab"], ["a", "b"], ""),
                (["a"], ["a"], ""),
                (["ba", "bab"], ["a"], ""),
                (["aba"], ["b"], ""),
                (["aba"], ["a", "b", "a", "a"], ""),
                (["bab"], ["a", "b"], ""),
            ])

    def test_since_1(self):
        for choice in ["first", "short", "common"]:
            self.check(way(choice=choice, since=1), [
                (["aba"], ["tab"], ""),
                (["aba"], ["a"], "ba"),
                (["aba"], ["a", "b"], "a"),
            ])

    def test_since_2(self):
        for choice in ["first", "short", "common"]:
            self.check(way(choice=choice, since=2), [
                (["aba"], ["tab"], ""),
                (["aba"], ["a"], ""),
                (["aba"], ["a", "b"], "a"),
                (["ab"], ["a"], ""),
            ])

    def test_nothing_is_offered_while_quiet(self):
        for choice in ["first", "short", "common"]:
            self.check(way(choice=choice), [(["ab", "aba"], ["a", "tab"], "")])
            self.check(way(choice=choice, back="both"), [(["ab"], ["a", "b", "back"], "")])

    def test_present_order_counts(self):
        words = ["aba", "abb", "aa"]
        learner = way(choice="first", learn=1)
        self.assertEqual(self.offer(learner, words, ["a"]), "ba")
        self.assertEqual(self.offer(learner, words, ["a", "a", "end", "a"]), "a")
        shorter = way(choice="short", learn=1)
        row = ["a", "b", "b", "end", "a", "b"]
        self.assertEqual(self.offer(shorter, words, ["a", "b"]), "a")
        self.assertEqual(self.offer(shorter, words, row), "b")


class Pressing(unittest.TestCase):
    """[6]"""

    def check(self, one, words, cases):
        for row, state in cases:
            with self.subTest(way=one, words=words, row=row):
                self.assertEqual(state_after(one, words, row), state)


class Letters(Pressing):
    def test_letters_up_to_4(self):
        self.check(P, ["bbb"], [
            (["a"], ("a", "", 0, ("bbb",), "")),
            (["a", "b"], ("ab", "", 0, ("bbb",), "")),
            (["b", "a", "b"], ("bab", "", 0, ("bbb",), "")),
            (["b", "a", "b", "b"], ("babb", "", 0, ("bbb",), "")),
        ])

    def test_nothing_at_4_letters(self):
        for one in all_ways():
            self.check(one, ["bbb"], [
                (["b", "a", "b", "b", "a"], ("babb", "", 0, ("bbb",), "")),
                (["a"] * 40, ("aaaa", "", 0, ("bbb",), "")),
            ])

    def test_begun_and_quiet_end(self):
        self.check(P, W, [
            (["a", "tab", "b"], ("abb", "", 0, tuple(W), "")),
            (["a", "tab", "a"], ("aba", "", 0, tuple(W), "")),
        ])
        self.check(way(back="both"), W, [
            (["a", "a", "back"], ("a", "", 1, tuple(W), "")),
            (["a", "a", "back", "b"], ("ab", "", 0, tuple(W), "")),
        ])

    def test_put_ends(self):
        self.check(P, W, [(["b", "end", "a"], ("a", "", 0, tuple(W), ""))])


class Tab(Pressing):
    def test_takes_an_offer(self):
        for accept, again, back in product(
            ["tab", "blank", "always"], ["next", "stay"], ["offer", "letter", "both"]
        ):
            one = way(accept=accept, again=again, back=back)
            self.check(one, W, [
                (["a", "tab"], ("ab", "a", 1, tuple(W), "")),
                (["a", "b", "tab"], ("aba", "ab", 1, tuple(W), "")),
            ])

    def test_takes_the_offer_of_each_choice(self):
        words = ["aba", "ab"]
        order = ("aba", "ab")
        self.check(way(choice="first"), words, [(["a", "tab"], ("aba", "a", 1, order, ""))])
        self.check(way(choice="short"), words, [(["a", "tab"], ("ab", "a", 1, order, ""))])
        self.check(way(choice="common"), words, [(["a", "tab"], ("ab", "a", 1, order, ""))])

    def test_does_not_put_in(self):
        self.assertEqual(put_in(P, W, ["a", "tab", "tab"]), [])

    def test_stay(self):
        words = ["ab", "aba", "aa"]
        for many in range(1, 5):
            self.check(way(again="stay"), words, [
                (["a"] + ["tab"] * many, ("ab", "a", 1, tuple(words), "")),
            ])

    def test_next_goes_round(self):
        words = ["ab", "aba", "aa"]
        texts = ["ab", "aba", "aa", "ab", "aba", "aa", "ab"]
        for many, text in enumerate(texts, 1):
            self.check(way(again="next"), words, [
                (["a"] + ["tab"] * many, (text, "a", 1, tuple(words), "")),
            ])

    def test_next_leaves_out_words_that_do_not_fit_what_was_begun(self):
        one = way(again="next")
        self.check(one, ["ab", "b", "aa"], [
            (["a", "tab", "tab"], ("aa", "a", 1, ("ab", "b", "aa"), "")),
            (["a", "tab", "tab", "tab"], ("ab", "a", 1, ("ab", "b", "aa"), "")),
        ])
        self.check(one, ["a", "ab", "aa"], [
            (["a", "tab"], ("ab", "a", 1, ("a", "ab", "aa"), "")),
            (["a", "tab", "tab"], ("aa", "a", 1, ("a", "ab", "aa"), "")),
            (["a", "tab", "tab", "tab"], ("ab", "a", 1, ("a", "ab", "aa"), "")),
        ])

    def test_next_from_a_later_word(self):
        words = ["aab", "ab", "aa"]
        one = way(choice="short", again="next")
        for many, text in enumerate(["ab", "aa", "aab", "ab"], 1):
            self.check(one, words, [(["a"] + ["tab"] * many, (text, "a", 1, tuple(words), ""))])

    def test_next_from_a_text_that_is_none_of_the_words(self):
        words = ["aba", "abb"]
        one = way(choice="common", again="next")
        for many, text in enumerate(["ab", "aba", "abb", "aba"], 1):
            self.check(one, words, [(["a"] + ["tab"] * many, (text, "a", 1, tuple(words), ""))])

    def test_next_with_one_word(self):
        self.check(way(again="next"), ["ab"], [
            (["a", "tab", "tab"], ("ab", "a", 1, ("ab",), "")),
        ])

    def test_next_by_the_present_order(self):
        one = way(again="next", learn=1)
        order = ("aba", "ab", "aa")
        learned = ["a", "b", "a", "end", "a"]
        for many, text in enumerate(["aba", "ab", "aa", "aba"], 1):
            self.check(one, ["ab", "aa", "aba"], [
                (learned + ["tab"] * many, (text, "a", 1, ("aba", "ab", "aa"), "")),
            ])
        self.assertEqual(state_after(one, ["ab", "aa", "aba"], learned)[3], order)

    def test_nothing_without_offer_and_without_begun(self):
        for again in ["next", "stay"]:
            self.check(way(again=again), W, [
                (["tab"], ("", "", 0, tuple(W), "")),
                (["b", "tab"], ("b", "", 0, tuple(W), "")),
                (["b", "blank", "tab"], ("", "", 0, tuple(W), "")),
            ])
            self.check(way(again=again, since=2), W, [
                (["a", "tab"], ("a", "", 0, tuple(W), "")),
            ])
            self.check(way(choice="common", again=again), ["ab", "aa"], [
                (["a", "tab"], ("a", "", 0, ("ab", "aa"), "")),
            ])
            self.check(way(again=again, back="both"), W, [
                (["a", "tab", "back", "tab"], ("a", "", 1, tuple(W), "")),
            ])


class BlankAndEnd(Pressing):
    def test_accept_tab(self):
        self.check(way(accept="tab"), W, [
            (["a", "blank"], ("", "", 0, tuple(W), "a")),
            (["a", "end"], ("", "", 0, tuple(W), "a")),
        ])

    def test_accept_blank(self):
        self.check(way(accept="blank"), W, [
            (["a", "blank"], ("", "", 0, tuple(W), "ab")),
            (["a", "end"], ("", "", 0, tuple(W), "a")),
        ])

    def test_accept_always(self):
        self.check(way(accept="always"), W, [
            (["a", "blank"], ("", "", 0, tuple(W), "ab")),
            (["a", "end"], ("", "", 0, tuple(W), "ab")),
        ])

    def test_accept_with_each_choice(self):
        for key in ["blank", "end"]:
            for choice, put in [("first", "aba"), ("short", "ab"), ("common", "ab")]:
                self.check(way(choice=choice, accept="always"), ["aba", "ab"], [
                    (["a", key], ("", "", 0, ("aba", "ab"), put)),
                ])

    def test_no_offer_is_added_while_quiet_or_before_since(self):
        words = ["ab", "aba"]
        for accept in ["blank", "always"]:
            self.check(way(accept=accept), words, [
                (["a", "tab", "blank"], ("", "", 0, ("ab", "aba"), "ab")),
                (["a", "tab", "end"], ("", "", 0, ("ab", "aba"), "ab")),
                (["a", "b", "blank"], ("", "", 0, ("ab", "aba"), "aba")),
            ])
            self.check(way(accept=accept, since=2), words, [
                (["a", "blank"], ("", "", 0, ("ab", "aba"), "a")),
                (["a", "b", "blank"], ("", "", 0, ("ab", "aba"), "aba")),
            ])

    def test_what_tab_took_is_put_in(self):
        for accept in ["tab", "blank", "always"]:
            for key in ["blank", "end"]:
                self.check(way(accept=accept), W, [
                    (["a", "tab", key], ("", "", 0, tuple(W), "ab")),
                ])

    def test_an_empty_field_puts_nothing_in(self):
        for one in all_ways():
            for key in ["blank", "end"]:
                self.check(one, ["bb"], [
                    ([key], ("", "", 0, ("bb",), "")),
                    (["a", key], ("", "", 0, ("bb",), "a")),
                    (["a", key, key], ("", "", 0, ("bb",), "")),
                ])

    def test_4_letters_are_put_in(self):
        for key in ["blank", "end"]:
            self.check(P, W, [(["a", "b", "a", "b", key], ("", "", 0, tuple(W), "abab"))])

    def test_quiet_ends(self):
        for key in ["blank", "end"]:
            self.check(way(back="both"), ["bb"], [
                (["a", "a", "back", key], ("", "", 0, ("bb",), "a")),
            ])


class Learning(Pressing):
    def test_a_word_goes_to_the_front(self):
        for key in ["blank", "end"]:
            self.check(way(learn=1), ["ab", "aba", "b"], [
                (["b", key], ("", "", 0, ("b", "ab", "aba"), "b")),
                (["a", "b", "a", key], ("", "", 0, ("aba", "ab", "b"), "aba")),
                (["a", "b", key], ("", "", 0, ("ab", "aba", "b"), "ab")),
                (["b", key, "a", "b", "a", key], ("", "", 0, ("aba", "b", "ab"), "aba")),
                (["b", key, "b", key], ("", "", 0, ("b", "ab", "aba"), "b")),
            ])

    def test_other_texts_teach_nothing(self):
        for row, put in [(["a", "end"], "a"), (["b", "b", "end"], "bb"),
                         (["a", "b", "a", "b", "end"], "abab")]:
            self.check(way(learn=1), ["ab", "aba", "b"], [
                (row, ("", "", 0, ("ab", "aba", "b"), put)),
            ])

    def test_without_learning(self):
        self.check(way(learn=0), ["ab", "aba", "b"], [
            (["b", "end"], ("", "", 0, ("ab", "aba", "b"), "b")),
            (["a", "b", "a", "blank"], ("", "", 0, ("ab", "aba", "b"), "aba")),
        ])

    def test_with_an_offer_that_is_added(self):
        self.check(way(accept="always", learn=1), ["b", "ab"], [
            (["a", "end"], ("", "", 0, ("ab", "b"), "ab")),
        ])
        self.check(way(accept="blank", learn=1), ["b", "a", "ab"], [
            (["a", "blank"], ("", "", 0, ("ab", "b", "a"), "ab")),
            (["a", "end"], ("", "", 0, ("a", "b", "ab"), "a")),
        ])

    def test_with_an_offer_that_was_taken(self):
        self.check(way(learn=1), ["b", "ab"], [
            (["a", "tab"], ("ab", "a", 1, ("b", "ab"), "")),
            (["a", "tab", "end"], ("", "", 0, ("ab", "b"), "ab")),
        ])

    def test_nothing_else_teaches(self):
        self.check(way(learn=1, again="next"), ["b", "ab", "aa"], [
            (["b", "back", "end"], ("", "", 0, ("b", "ab", "aa"), "")),
            (["a", "b", "back", "back"], ("", "", 0, ("b", "ab", "aa"), "")),
            (["a", "tab", "tab"], ("aa", "a", 1, ("b", "ab", "aa"), "")),
        ])


class Back(Pressing):
    def test_offer(self):
        self.check(way(back="offer"), W, [
            (["a", "back"], ("a", "", 1, tuple(W), "")),
            (["a", "back", "back"], ("", "", 0, tuple(W), "")),
            (["a", "b", "back"], ("ab", "", 1, tuple(W), "")),
            (["a", "b", "back", "back"], ("a", "", 1, tuple(W), "")),
            (["b", "back"], ("", "", 0, tuple(W), "")),
            (["b", "b", "back"], ("b", "", 1, tuple(W), "")),
            (["a", "tab", "back"], ("a", "", 1, tuple(W), "")),
            (["b", "b", "a", "a", "back"], ("bba", "", 1, tuple(W), "")),
        ])

    def test_letter(self):
        self.check(way(back="letter"), W, [
            (["a", "back"], ("", "", 0, tuple(W), "")),
            (["a", "b", "back"], ("a", "", 0, tuple(W), "")),
            (["b", "b", "back"], ("b", "", 0, tuple(W), "")),
            (["a", "tab", "back"], ("a", "", 0, tuple(W), "")),
            (["a", "tab", "back", "tab"], ("ab", "a", 1, tuple(W), "")),
            (["b", "b", "a", "a", "back"], ("bba", "", 0, tuple(W), "")),
        ])

    def test_both(self):
        self.check(way(back="both"), W, [
            (["a", "back"], ("", "", 0, tuple(W), "")),
            (["a", "b", "back"], ("a", "", 1, tuple(W), "")),
            (["a", "b", "back", "back"], ("", "", 0, tuple(W), "")),
            (["b", "b", "back"], ("b", "", 1, tuple(W), "")),
            (["a", "tab", "back"], ("a", "", 1, tuple(W), "")),
            (["b", "b", "a", "a", "back"], ("bba", "", 1, tuple(W), "")),
        ])

    def test_of_the_offer_none_is_left_by_since(self):
        self.check(way(back="offer", since=2), W, [
            (["a", "back"], ("", "", 0, tuple(W), "")),
            (["a", "b", "back"], ("ab", "", 1, tuple(W), "")),
        ])

    def test_nothing_stands_in_the_field(self):
        for back in ["offer", "letter", "both"]:
            self.check(way(back=back), W, [
                (["back"], ("", "", 0, tuple(W), "")),
                (["b", "end", "back"], ("", "", 0, tuple(W), "")),
            ])


class Views(unittest.TestCase):
    """[7]"""

    ROW = ["a", "tab", "end", "b", "blank", "tab"]

    def test_sight_0(self):
        self.assertEqual(views_of(P, W, 0, self.ROW), [
            ("a", "b", ""), ("ab", "", ""), ("", "", "ab"),
            ("b", "", ""), ("", "", "b"), ("", "", ""),
        ])
        self.assertEqual(views_of(Q, W, 0, ["a", "b", "back", "a", "back", "end"]), [
            ("a", "", ""), ("ab", "a", ""), ("ab", "", ""),
            ("aba", "", ""), ("ab", "", ""), ("", "", "ab"),
        ])

    def test_sight_1(self):
        self.assertEqual(views_of(P, W, 1, self.ROW), ["", "", "ab", "", "b", ""])
        self.assertEqual(views_of(Q, W, 1, ["a", "b", "end", "end"]), ["", "", "aba", ""])

    def test_empty_rows(self):
        for one in all_ways():
            self.assertEqual(views_of(one, W, 0, []), [])
            self.assertEqual(views_of(one, W, 1, []), [])
            self.assertEqual(put_in(one, W, []), [])
            self.assertEqual(states_along(one, W, []), [("", "", 0, tuple(W), "")])

    def test_40_keys(self):
        row = ["a", "blank"] * 20
        order = tuple(W)
        self.assertEqual(put_in(P, W, row), ["a"] * 20)
        self.assertEqual(views_of(P, W, 1, row), ["", "a"] * 20)
        self.assertEqual(views_of(P, W, 0, row), [("a", "b", ""), ("", "", "a")] * 20)
        along = states_along(P, W, row)
        self.assertEqual(along[0], ("", "", 0, order, ""))
        self.assertEqual(along[1:], [("a", "", 0, order, ""), ("", "", 0, order, "a")] * 20)
        self.assertEqual(state_after(P, W, row), ("", "", 0, order, "a"))

    def test_put_in(self):
        self.assertEqual(put_in(P, W, ["a", "tab", "end", "b", "blank"]), ["ab", "b"])
        self.assertEqual(put_in(P, W, ["end", "b", "end", "end", "b"]), ["b"])
        self.assertEqual(put_in(Q, W, ["a", "b", "end", "b", "b", "blank"]), ["aba", "bb"])

    def test_states_along(self):
        order = tuple(W)
        self.assertEqual(states_along(P, W, ["a", "tab", "end", "b"]), [
            ("", "", 0, order, ""), ("a", "", 0, order, ""), ("ab", "a", 1, order, ""),
            ("", "", 0, order, "ab"), ("b", "", 0, order, ""),
        ])

    def test_they_agree(self):
        row = ["a", "tab", "tab", "back", "a", "end", "b", "back", "b", "a", "blank", "tab"]
        for one in all_ways():
            along = states_along(one, W, row)
            puts = views_of(one, W, 1, row)
            with self.subTest(way=one):
                self.assertEqual(along, [state_after(one, W, row[:n]) for n in range(13)])
                self.assertEqual(puts, [state[4] for state in along[1:]])
                self.assertEqual(put_in(one, W, row), [put for put in puts if put])
                seen = [(text, put) for text, offer, put in views_of(one, W, 0, row)]
                self.assertEqual(seen, [(state[0], state[4]) for state in along[1:]])


if __name__ == "__main__":
    unittest.main()
