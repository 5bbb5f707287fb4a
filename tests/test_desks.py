"""desks.py and [10]: a desk that takes keys and takes them back."""

import unittest
from copy import deepcopy

from fieldoffers.desks import Desk
from fieldoffers.errors import BadKeys, BadNumber, BadWay, BadWords, NotFound
from fieldoffers.keys import all_keys
from fieldoffers.running import state_after, views_of
from tests.samples import (
    NO_KEYS, P, Q, W, WRONG_LISTS, WRONG_SIGHTS, WRONG_WAYS, way,
)

ROWS = [
    ["a", "tab", "end", "b", "blank", "tab"],
    ["b", "a", "b", "back", "back", "end", "end"],
    ["a", "b", "tab", "tab", "back", "a", "blank", "a", "a", "a", "a", "a", "end"],
]



class Pressing(unittest.TestCase):
    def check(self, desk, one, words, sight, row):
        """Check that a desk shows what stands behind a row."""
        state = state_after(one, words, row)
        self.assertEqual(desk.state(), state)
        self.assertEqual(desk.pressed(), row)
        self.assertEqual(len(desk), len(row))
        if row:
            self.assertEqual(desk.view(), views_of(one, words, sight, row)[-1])

    def test_without_keys(self):
        for words in [W, ["ab"]]:
            for one in [P, Q]:
                desk = Desk(one, words, 0)
                self.check(desk, one, words, 0, [])
                self.assertEqual(desk.state(), ("", "", 0, tuple(words), ""))
                self.assertEqual(desk.view(), ("", "", ""))
                self.assertEqual(Desk(one, words, 1).view(), "")
                with self.assertRaises(NotFound):
                    desk.taken_off()
                self.check(desk, one, words, 0, [])

    def test_press(self):
        desk = Desk(P, W, 0)
        self.assertEqual(desk.press("a"), ("a", "b", ""))
        self.assertEqual(desk.press("tab"), ("ab", "", ""))
        self.assertEqual(desk.state(), ("ab", "a", 1, ("ab", "aba", "b"), ""))
        self.assertEqual(desk.press("end"), ("", "", "ab"))
        self.assertEqual(desk.view(), ("", "", "ab"))
        self.assertEqual(desk.press("tab"), ("", "", ""))
        self.assertEqual(desk.pressed(), ["a", "tab", "end", "tab"])
        self.assertEqual(len(desk), 4)

    def test_in_the_sight_1(self):
        desk = Desk(P, W, 1)
        self.assertEqual([desk.press(key) for key in ["a", "tab", "end", "b"]], ["", "", "ab", ""])
        self.assertEqual(desk.view(), "")

    def test_rows(self):
        for one in [P, Q, way("short", 1, "blank", "next", "both", 1)]:
            for sight in [0, 1]:
                for row in ROWS:
                    desk = Desk(one, W, sight)
                    for at, key in enumerate(row):
                        view = desk.press(key)
                        self.assertEqual(view, views_of(one, W, sight, row[:at + 1])[-1])
                        self.check(desk, one, W, sight, row[:at + 1])

    def test_keys_taken_off(self):
        for one in [P, Q, way(learn=1, accept="blank", back="offer")]:
            for sight in [0, 1]:
                for row in ROWS:
                    desk = Desk(one, W, sight)
                    for key in row:
                        desk.press(key)
                    for at in reversed(range(len(row))):
                        self.assertEqual(desk.taken_off(), row[at])
                        self.check(desk, one, W, sight, row[:at])
                    with self.assertRaises(NotFound):
                        desk.taken_off()
                    for key in reversed(row):
                        desk.press(key)
                    self.check(desk, one, W, sight, row[::-1])

    def test_learned_words_are_unlearned(self):
        desk = Desk(way(learn=1), ["ab", "aa"], 0)
        for key in ["a", "a", "blank"]:
            desk.press(key)
        self.assertEqual(desk.state()[3], ("aa", "ab"))
        self.assertEqual(desk.press("a"), ("a", "a", ""))
        self.assertEqual([desk.taken_off(), desk.taken_off()], ["a", "blank"])
        self.assertEqual(desk.state(), ("aa", "", 0, ("ab", "aa"), ""))
        self.assertEqual([desk.press("back"), desk.press("end")], [("a", "b", ""), ("", "", "a")])

    def test_other_keys_behind_keys_taken_off(self):
        desk = Desk(P, W, 0)
        for key in ["a", "b", "a"]:
            desk.press(key)
        desk.taken_off()
        self.assertEqual(desk.press("end"), ("", "", "ab"))
        self.check(desk, P, W, 0, ["a", "b", "end"])

    def test_kinds_of_values(self):
        desk = Desk(P, W, 0)
        desk.press("a")
        self.assertIs(type(desk.state()), tuple)
        self.assertIs(type(desk.view()), tuple)
        self.assertIs(type(desk.pressed()), list)
        self.assertIs(type(len(desk)), int)
        for name in ["press", "state", "view", "pressed", "taken_off", "__len__"]:
            self.assertIn(name, vars(Desk))


class Limits(unittest.TestCase):
    def full_desk(self):
        desk = Desk(Q, W, 0)
        for at in range(100):
            desk.press(all_keys()[at % 6])
        return desk

    def kept(self, desk):
        return (desk.state(), desk.view(), desk.pressed(), len(desk))

    def test_100_keys_and_one_more(self):
        desk = self.full_desk()
        self.assertEqual(len(desk), 100)
        before = self.kept(desk)
        for key in all_keys():
            with self.assertRaises(BadNumber):
                desk.press(key)
            self.assertEqual(self.kept(desk), before)
        for key in NO_KEYS:
            with self.assertRaises(BadKeys):
                desk.press(key)
            self.assertEqual(self.kept(desk), before)

    def test_room_again(self):
        desk = self.full_desk()
        last = desk.taken_off()
        self.assertEqual(len(desk), 99)
        desk.press(last)
        self.assertEqual(desk.pressed(), [all_keys()[at % 6] for at in range(100)])
        with self.assertRaises(BadNumber):
            desk.press("a")

    def test_no_keys(self):
        desk = Desk(P, W, 0)
        desk.press("a")
        before = self.kept(desk)
        for key in NO_KEYS:
            with self.subTest(key=key):
                with self.assertRaises(BadKeys):
                    desk.press(key)
                self.assertEqual(self.kept(desk), before)
        self.assertEqual(desk.press("tab"), ("ab", "", ""))

    def test_nothing_to_take_off(self):
        desk = Desk(P, W, 1)
        before = self.kept(desk)
        for _ in range(3):
            with self.assertRaises(NotFound):
                desk.taken_off()
            self.assertEqual(self.kept(desk), before)
        self.assertEqual(desk.press("b"), "")
        self.assertEqual(desk.taken_off(), "b")
        with self.assertRaises(NotFound):
            desk.taken_off()


class Arguments(unittest.TestCase):
    def test_each_argument(self):
        for values, make, error in [
            (WRONG_WAYS, lambda value: Desk(value, W, 0), BadWay),
            (WRONG_LISTS, lambda value: Desk(P, value, 0), BadWords),
            (WRONG_SIGHTS, lambda value: Desk(P, W, value), BadNumber),
            (WRONG_WAYS, lambda value: Desk(value, None, None), BadWay),
            (WRONG_LISTS, lambda value: Desk(P, value, None), BadWords),
        ]:
            for value in values:
                with self.subTest(value=value, error=error):
                    with self.assertRaises(error):
                        make(value)

    def test_arguments_are_as_they_were(self):
        words = list(W)
        desk = Desk(Q, words, 0)
        for key in ["b", "end", "a", "b", "end"]:
            desk.press(key)
        self.assertEqual(words, W)


class Apart(unittest.TestCase):
    def test_two_desks(self):
        words = list(W)
        one = Desk(P, words, 0)
        other = Desk(Q, words, 1)
        one.press("a")
        self.assertEqual((len(one), len(other)), (1, 0))
        other.press("b")
        other.press("end")
        one.press("tab")
        self.assertEqual(one.state(), ("ab", "a", 1, tuple(W), ""))
        self.assertEqual(other.state(), ("", "", 0, ("b", "ab", "aba"), "b"))
        self.assertEqual((one.pressed(), other.pressed()), (["a", "tab"], ["b", "end"]))
        one.taken_off()
        self.assertEqual(len(other), 2)

    def test_the_given_list_changed_afterwards(self):
        words = list(W)
        desk = Desk(P, words, 0)
        words.reverse()
        words.append("aaa")
        self.assertEqual(desk.state(), ("", "", 0, tuple(W), ""))
        words.clear()
        self.assertEqual(desk.press("a"), ("a", "b", ""))

    def test_returned_lists_changed(self):
        desk = Desk(P, W, 0)
        desk.press("a")
        desk.press("tab")
        before = deepcopy((desk.state(), desk.view(), desk.pressed(), len(desk)))
        pressed = desk.pressed()
        pressed.clear()
        desk.pressed().append("c")
        self.assertEqual((desk.state(), desk.view(), desk.pressed(), len(desk)), before)
        self.assertIsNot(desk.pressed(), desk.pressed())
        self.assertEqual(desk.taken_off(), "tab")


if __name__ == "__main__":
    unittest.main()
