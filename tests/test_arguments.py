"""[10] and the interface: arguments that are not valid, and arguments kept as they are."""

import unittest
from copy import deepcopy

from fieldoffers.choosing import best_key, count_same
from fieldoffers.desks import Desk
from fieldoffers.errors import (
    BadKeys, BadNumber, BadText, BadViews, BadWay, BadWords, FieldError, NotFound,
)
from fieldoffers.finding import finding_plan, groups, keys_needed, parting_row
from fieldoffers.keys import all_keys
from fieldoffers.kinds import alike_groups, count_kinds
from fieldoffers.meaning import first_wrong, typed, wrongs
from fieldoffers.putting import costs, never_put, row_for, saved
from fieldoffers.reaching import count_states, idle_keys, row_to
from fieldoffers.reading import bars, first_bar, made, remains
from fieldoffers.running import put_in, state_after, states_along, views_of
from fieldoffers.seeing import can_show, count_rows, first_row, showers, states_behind
from fieldoffers.spoken import is_within, spoken_classes, telling_views
from fieldoffers.telling import classes, least_list, same, telling_row, telling_table
from fieldoffers.texts import (
    format_list, format_row, format_way, parse_list, parse_row, parse_way,
)
from fieldoffers.ways import all_ways
from fieldoffers.words import all_texts, small_lists
from tests.samples import (
    NO_ENDING_KEYS, NO_STRINGS, P, Q, W, WRONG_FAMILIES, WRONG_LENGTHS, WRONG_LISTS, WRONG_ROWS,
    WRONG_SIGHTS, WRONG_WANTED, WRONG_WAYS, way, wrong_record_lists, wrong_records, wrong_states,
    wrong_views,
)

ROW = ["a", "tab", "end", "b", "blank"]
STATE = ("ab", "a", 1, ("ab", "aba", "b"), "")
VIEWS = [("a", "b", ""), ("ab", "", "")]
RECORD = (["a", "tab"], VIEWS)

# For each kind of argument: a valid value, values that are not valid, its exception.
KINDS = {
    "way": (P, WRONG_WAYS, BadWay),
    "words": (W, WRONG_LISTS, BadWords),
    "sight": (0, WRONG_SIGHTS, BadNumber),
    "row": (ROW, WRONG_ROWS, BadKeys),
    "state": (STATE, wrong_states(W), BadViews),
    "other": (Q, WRONG_WAYS, BadWay),
    "family": ([P, Q, P], WRONG_FAMILIES, BadWay),
    "few ways": ([P, Q, P], WRONG_FAMILIES, BadWay),
    "few words": (W[:2], WRONG_LISTS, BadWords),
    "views": (VIEWS, wrong_views(0), BadViews),
    "record": (RECORD, wrong_records(0), BadViews),
    "records": ([RECORD, ([], [])], wrong_record_lists(0), BadViews),
    "wanted": ("aba", WRONG_WANTED, BadWords),
    "length": (2, WRONG_LENGTHS, BadNumber),
    "ending key": ("end", NO_ENDING_KEYS, BadKeys),
    "way's text": ("first 1 tab stay letter 0", NO_STRINGS + ["", "ab"], BadText),
    "row's text": ("a,tab", NO_STRINGS + ["ab", " "], BadText),
    "list's text": ("ab b", NO_STRINGS + ["", "a,b"], BadText),
}

# The valid values of the kinds that a sight decides, in the sight 1.
VALID_IN_SIGHT_1 = {
    "sight": 1,
    "views": ["", "ab"],
    "record": (["a", "b"], ["", ""]),
    "records": [(["a", "b"], ["", ""])],
}
WRONG_IN_SIGHT_1 = {
    "views": wrong_views(1),
    "record": wrong_records(1),
    "records": wrong_record_lists(1),
}

FUNCTIONS = [
    (views_of, ["way", "words", "sight", "row"]),
    (states_along, ["way", "words", "row"]),
    (state_after, ["way", "words", "row"]),
    (put_in, ["way", "words", "row"]),
    (count_states, ["way", "words"]),
    (row_to, ["way", "words", "state"]),
    (idle_keys, ["way", "words", "state"]),
    (first_bar, ["way", "words", "sight", "record"]),
    (made, ["way", "words", "sight", "record"]),
    (remains, ["family", "words", "sight", "records"]),
    (bars, ["family", "words", "sight", "records"]),
    (can_show, ["way", "words", "sight", "views"]),
    (showers, ["family", "words", "sight", "views"]),
    (first_row, ["way", "words", "sight", "views"]),
    (states_behind, ["way", "words", "sight", "views"]),
    (count_rows, ["way", "words", "sight", "views"]),
    (same, ["way", "other", "words", "sight"]),
    (telling_row, ["way", "other", "words", "sight"]),
    (least_list, ["way", "other", "sight"]),
    (classes, ["family", "words", "sight"]),
    (telling_table, ["family", "words", "sight"]),
    (is_within, ["way", "other", "few words", "sight"]),
    (telling_views, ["way", "other", "few words", "sight"]),
    (spoken_classes, ["family", "few words", "sight"]),
    (keys_needed, ["few ways", "few words", "sight"]),
    (finding_plan, ["few ways", "few words", "sight"]),
    (parting_row, ["few ways", "few words", "sight"]),
    (groups, ["family", "words", "sight", "row"]),
    (best_key, ["family", "words", "sight", "record"]),
    (count_same, ["way", "other", "words", "sight", "length"]),
    (alike_groups, ["way", "words", "sight"]),
    (count_kinds, ["way", "words", "sight"]),
    (row_for, ["way", "words", "row", "wanted"]),
    (never_put, ["way", "words"]),
    (saved, ["way", "words"]),
    (costs, ["way", "words", "wanted"]),
    (typed, ["way", "words", "wanted", "ending key"]),
    (wrongs, ["way", "words", "ending key"]),
    (first_wrong, ["way", "words", "ending key"]),
    (Desk, ["way", "words", "sight"]),
    (format_way, ["way"]),
    (format_row, ["row"]),
    (format_list, ["words"]),
    (parse_way, ["way's text"]),
    (parse_row, ["row's text"]),
    (parse_list, ["list's text"]),
]


def valid(kinds):
    return [deepcopy(KINDS[kind][0]) for kind in kinds]


class WrongArguments(unittest.TestCase):
    def raised(self, function, arguments):
        """Return the very class that a call raises."""
        try:
            function(*arguments)
        except FieldError as error:
            return type(error)
        return None

    def test_each_argument(self):
        for function, kinds in FUNCTIONS:
            for at, kind in enumerate(kinds):
                for value in KINDS[kind][1]:
                    arguments = valid(kinds)
                    arguments[at] = value
                    with self.subTest(function=function.__name__, kind=kind, value=value):
                        self.assertIs(self.raised(function, arguments), KINDS[kind][2])

    def test_in_the_sight_1(self):
        for function, kinds in FUNCTIONS:
            for at, kind in enumerate(kinds):
                for value in WRONG_IN_SIGHT_1.get(kind, []):
                    arguments = [VALID_IN_SIGHT_1.get(k, KINDS[k][0]) for k in kinds]
                    arguments[at] = value
                    with self.subTest(function=function.__name__, kind=kind, value=value):
                        self.assertIs(self.raised(function, arguments), BadViews)

    def test_views_of_the_other_sight(self):
        for function, kinds in FUNCTIONS:
            for kind in WRONG_IN_SIGHT_1:
                if kind in kinds:
                    arguments = valid(kinds)
                    arguments[kinds.index("sight")] = 1
                    with self.subTest(function=function.__name__):
                        self.assertIs(self.raised(function, arguments), BadViews)
                    arguments = [VALID_IN_SIGHT_1.get(k, KINDS[k][0]) for k in kinds]
                    arguments[kinds.index("sight")] = 0
                    with self.subTest(function=function.__name__):
                        self.assertIs(self.raised(function, arguments), BadViews)

    def test_edges_that_are_valid(self):
        full = (["tab"] * 40, [("", "", "")] * 40)
        for function, kinds in FUNCTIONS:
            for kind, values in [
                ("family", [[P], [P] * 8, [P, Q] * 4]),
                ("views", [[], [("", "", "")] * 40]),
                ("record", [([], []), full]),
                ("records", [[full], [([], [])] * 12, [full] * 12]),
                ("few ways", [[P], [P, Q], [P] * 3]),
                ("row", [[], ["tab"] * 40]),
                ("length", [0, 1, 39, 40]),
                ("wanted", ["a", "b", "abab", "bbbb"]),
            ]:
                for value in values if kind in kinds else []:
                    arguments = valid(kinds)
                    arguments[kinds.index(kind)] = value
                    with self.subTest(function=function.__name__, kind=kind, value=value):
                        self.assertIsNone(self.raised(function, arguments))

    def test_three_words_come_behind_what_is_not_valid(self):
        for function, kinds in FUNCTIONS:
            if "few words" in kinds:
                arguments = valid(kinds)
                arguments[kinds.index("few words")] = W
                with self.subTest(function=function.__name__):
                    self.assertIs(self.raised(function, arguments), NotFound)
                for at, kind in enumerate(kinds):
                    wrong = list(arguments)
                    wrong[at] = None
                    with self.subTest(function=function.__name__, kind=kind):
                        self.assertIs(self.raised(function, wrong), KINDS[kind][2])

    def test_too_many_ways_come_behind_what_is_not_valid(self):
        for function, kinds in FUNCTIONS:
            if "few ways" in kinds:
                for sight, many in [(0, 4), (0, 8), (1, 3), (1, 8)]:
                    arguments = [[P] * many, ["ab"], sight]
                    with self.subTest(function=function.__name__, sight=sight, many=many):
                        self.assertIs(self.raised(function, arguments), NotFound)
                        self.assertIs(self.raised(function, [[P] * many, W, sight]), NotFound)
                        for at, error in [(0, BadWay), (1, BadWords), (2, BadNumber)]:
                            wrong = list(arguments)
                            wrong[at] = None
                            self.assertIs(self.raised(function, wrong), error)

    def test_of_several_the_first(self):
        for function, kinds in FUNCTIONS:
            for first in range(len(kinds)):
                for second in range(first + 1, len(kinds)):
                    for value in [None, True, "ab ", [None], (), 10 ** 30]:
                        arguments = valid(kinds)
                        arguments[first] = value
                        arguments[second] = None
                        with self.subTest(function=function.__name__, first=first, value=value):
                            self.assertIs(
                                self.raised(function, arguments), KINDS[kinds[first]][2])

    def test_all_from_one_on(self):
        for function, kinds in FUNCTIONS:
            for first in range(len(kinds)):
                arguments = valid(kinds)[:first] + [None] * (len(kinds) - first)
                with self.subTest(function=function.__name__, first=first):
                    self.assertIs(self.raised(function, arguments), KINDS[kinds[first]][2])

    def test_valid_sights(self):
        self.assertEqual(views_of(P, W, 0, ["a"]), [("a", "b", "")])
        self.assertEqual(views_of(P, W, 1, ["a"]), [""])

    def test_a_row_of_41_keys(self):
        row = ["a"] * 41
        for function in [states_along, state_after, put_in]:
            with self.assertRaises(BadKeys):
                function(P, W, row)
        with self.assertRaises(BadKeys):
            views_of(P, W, 0, row)

    def test_a_state_that_is_not_valid_comes_before_one_that_is_not_found(self):
        quiet = ("", "", True, ("ab", "aba", "b"), "")
        for function in [row_to, idle_keys]:
            self.assertIs(self.raised(function, [P, W, quiet]), BadViews)

    def test_a_state_for_another_list(self):
        for function in [row_to, idle_keys]:
            for words in [["ab", "aba"], ["ab", "aba", "bb"], ["ab", "aba", "a"]]:
                self.assertIs(self.raised(function, [P, words, STATE]), BadViews)


class KeptArguments(unittest.TestCase):
    def test_calls_that_return(self):
        for function, kinds in FUNCTIONS:
            for one in [P, Q]:
                arguments = valid(kinds)
                if kinds[0] == "way":
                    arguments[0] = one
                if kinds[0] in ["family", "few ways"]:
                    arguments[0] = [one, P, Q]
                if "state" in kinds:
                    arguments[2] = ("ab", "", 0, ("ab", "aba", "b"), "")
                before = deepcopy(arguments)
                try:
                    function(*arguments)
                except NotFound:
                    # With Q, which does not show what P shows and can't put each word
                    # in, or P, which puts each text in as it is.
                    self.assertIn(
                        function, [first_row, telling_row, telling_views, saved, first_wrong])
                with self.subTest(function=function.__name__, way=one):
                    self.assertEqual(arguments, before)

    def test_calls_that_raise(self):
        for function, kinds in FUNCTIONS:
            for at in range(len(kinds)):
                arguments = valid(kinds)
                arguments[at] = [["a"], "c"]
                before = deepcopy(arguments)
                with self.assertRaises(FieldError):
                    function(*arguments)
                with self.subTest(function=function.__name__, at=at):
                    self.assertEqual(arguments, before)

    def test_returned_lists_are_new(self):
        calls = [
            (views_of, [P, W, 0, ROW]), (views_of, [P, W, 1, ROW]), (put_in, [P, W, ROW]),
            (states_along, [P, W, ROW]), (row_to, [P, W, STATE]), (idle_keys, [P, W, STATE]),
            (remains, [[P, Q, P], W, 0, [RECORD]]), (bars, [[P, Q], W, 0, [RECORD]]),
            (showers, [[P, Q, P], W, 0, VIEWS]), (first_row, [P, W, 0, VIEWS]),
            (first_row, [P, W, 0, []]), (states_behind, [P, W, 0, VIEWS]),
            (telling_row, [P, Q, W, 0]), (least_list, [P, Q, 0]),
            (classes, [[P, Q, P], W, 0]), (telling_table, [[P, Q, P], W, 0]),
            (spoken_classes, [[P, Q, P], W[:2], 0]),
            (parting_row, [[P, Q, P], W[:2], 0]), (parting_row, [[P, P], W[:2], 0]),
            (groups, [[P, Q, P], W, 0, ROW]), (groups, [[P, Q, P], W, 1, []]),
            (alike_groups, [P, W, 0]), (alike_groups, [Q, W, 1]), (row_for, [P, W, ["a"], "aba"]),
            (never_put, [way(accept="always"), ["aba"]]), (wrongs, [Q, W, "end"]),
            (parse_row, ["a,tab"]), (parse_row, [""]), (parse_list, ["ab b"]),
            (all_ways, []), (all_texts, []), (small_lists, []), (all_keys, []),
        ]
        for function, arguments in calls:
            before = function(*arguments)
            kept = deepcopy(before)
            for inner in before:
                if isinstance(inner, list):
                    inner.clear()
                    inner.append("c")
            before.clear()
            before.append("c")
            with self.subTest(function=function.__name__):
                self.assertEqual(function(*arguments), kept)

    def test_the_returned_view_row_is_new(self):
        before = telling_views(P, Q, W[:2], 0)
        kept = deepcopy(before)
        before[0].append("c")
        self.assertEqual(telling_views(P, Q, W[:2], 0), kept)

    def test_the_lists_of_a_plan_are_new(self):
        for family in [[P, Q, P], [P, P]]:
            before = finding_plan(family, W[:2], 0)
            kept = deepcopy(before)
            waiting = [before]
            while waiting:
                plan = waiting.pop()
                if plan[0] == "press":
                    waiting.extend(behind for _, behind in plan[2])
                plan[-1].clear()
            self.assertNotEqual(before, kept)
            self.assertEqual(finding_plan(family, W[:2], 0), kept)

    def test_lists_that_are_changed_behind_a_call(self):
        words = list(W)
        row = list(ROW)
        along = states_along(P, words, row)
        kept = list(along)
        words.reverse()
        row.clear()
        self.assertEqual(along, kept)


if __name__ == "__main__":
    unittest.main()
