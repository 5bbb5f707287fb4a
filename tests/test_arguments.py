"""[10] and the interface: arguments that are not valid, and arguments kept as they are."""

import unittest
from copy import deepcopy

from fieldoffers.errors import BadKeys, BadNumber, BadViews, BadWay, BadWords, FieldError
from fieldoffers.reaching import count_states, idle_keys, row_to
from fieldoffers.running import put_in, state_after, states_along, views_of
from tests.samples import (
    P, Q, W, WRONG_LISTS, WRONG_ROWS, WRONG_SIGHTS, WRONG_WAYS, wrong_states,
)

ROW = ["a", "tab", "end", "b", "blank"]
STATE = ("ab", "a", 1, ("ab", "aba", "b"), "")

# For each kind of argument: a valid value, values that are not valid, its exception.
KINDS = {
    "way": (P, WRONG_WAYS, BadWay),
    "words": (W, WRONG_LISTS, BadWords),
    "sight": (0, WRONG_SIGHTS, BadNumber),
    "row": (ROW, WRONG_ROWS, BadKeys),
    "state": (STATE, wrong_states(W), BadViews),
}

FUNCTIONS = [
    (views_of, ["way", "words", "sight", "row"]),
    (states_along, ["way", "words", "row"]),
    (state_after, ["way", "words", "row"]),
    (put_in, ["way", "words", "row"]),
    (count_states, ["way", "words"]),
    (row_to, ["way", "words", "state"]),
    (idle_keys, ["way", "words", "state"]),
]


def valid(kinds):
    return [deepcopy(KINDS[kind][0]) for kind in kinds]


class WrongArguments(unittest.TestCase):
    def raised(self, function, arguments):
        """Return the very class that a call raises."""
        try:
            function(*arguments)
        except FieldError as error:
            return type(error)
        return None

    def test_each_argument(self):
        for function, kinds in FUNCTIONS:
            for at, kind in enumerate(kinds):
                for value in KINDS[kind][1]:
                    arguments = valid(kinds)
                    arguments[at] = value
                    with self.subTest(function=function.__name__, kind=kind, value=value):
                        self.assertIs(self.raised(function, arguments), KINDS[kind][2])

    def test_of_several_the_first(self):
        for function, kinds in FUNCTIONS:
            for first in range(len(kinds)):
                for second in range(first + 1, len(kinds)):
                    for value in [None, True, "ab ", [None], (), 10 ** 30]:
                        arguments = valid(kinds)
                        arguments[first] = value
                        arguments[second] = None
                        with self.subTest(function=function.__name__, first=first, value=value):
                            self.assertIs(
                                self.raised(function, arguments), KINDS[kinds[first]][2])

    def test_all_from_one_on(self):
        for function, kinds in FUNCTIONS:
            for first in range(len(kinds)):
                arguments = valid(kinds)[:first] + [None] * (len(kinds) - first)
                with self.subTest(function=function.__name__, first=first):
                    self.assertIs(self.raised(function, arguments), KINDS[kinds[first]][2])

    def test_valid_sights(self):
        self.assertEqual(views_of(P, W, 0, ["a"]), [("a", "b", "")])
        self.assertEqual(views_of(P, W, 1, ["a"]), [""])

    def test_a_row_of_41_keys(self):
        row = ["a"] * 41
        for function in [states_along, state_after, put_in]:
            with self.assertRaises(BadKeys):
                function(P, W, row)
        with self.assertRaises(BadKeys):
            views_of(P, W, 0, row)

    def test_a_state_that_is_not_valid_comes_before_one_that_is_not_found(self):
        quiet = ("", "", True, ("ab", "aba", "b"), "")
        for function in [row_to, idle_keys]:
            self.assertIs(self.raised(function, [P, W, quiet]), BadViews)

    def test_a_state_for_another_list(self):
        for function in [row_to, idle_keys]:
            for words in [["ab", "aba"], ["ab", "aba", "bb"], ["ab", "aba", "a"]]:
                self.assertIs(self.raised(function, [P, words, STATE]), BadViews)


class KeptArguments(unittest.TestCase):
    def test_calls_that_return(self):
        for function, kinds in FUNCTIONS:
            for one in [P, Q]:
                arguments = valid(kinds)
                arguments[0] = one
                if "state" in kinds:
                    arguments[2] = ("ab", "", 0, ("ab", "aba", "b"), "")
                before = deepcopy(arguments)
                function(*arguments)
                with self.subTest(function=function.__name__, way=one):
                    self.assertEqual(arguments, before)

    def test_calls_that_raise(self):
        for function, kinds in FUNCTIONS:
            for at in range(len(kinds)):
                arguments = valid(kinds)
                arguments[at] = [["a"], "c"]
                before = deepcopy(arguments)
                with self.assertRaises(FieldError):
                    function(*arguments)
                with self.subTest(function=function.__name__, at=at):
                    self.assertEqual(arguments, before)

    def test_returned_lists_are_new(self):
        calls = [
            (views_of, [P, W, 0, ROW]), (views_of, [P, W, 1, ROW]), (put_in, [P, W, ROW]),
            (states_along, [P, W, ROW]), (row_to, [P, W, STATE]), (idle_keys, [P, W, STATE]),
        ]
        for function, arguments in calls:
            before = function(*arguments)
            kept = list(before)
            before.clear()
            before.append("c")
            with self.subTest(function=function.__name__):
                self.assertEqual(function(*arguments), kept)

    def test_lists_that_are_changed_behind_a_call(self):
        words = list(W)
        row = list(ROW)
        along = states_along(P, words, row)
        kept = list(along)
        words.reverse()
        row.clear()
        self.assertEqual(along, kept)


if __name__ == "__main__":
    unittest.main()
