"""Ways, lists and values of wrong kinds that several tests use."""

P = ("first", 1, "tab", "stay", "letter", 0)
Q = ("common", 2, "always", "next", "offer", 1)
W = ["ab", "aba", "b"]


def way(choice="first", since=1, accept="tab", again="stay", back="letter", learn=0):
    return (choice, since, accept, again, back, learn)


class Odd:
    """A value of a kind that no point speaks of."""


class Agreeable:
    """A value that claims to equal any other one."""

    def __eq__(self, other):
        return True

    def __hash__(self):
        return 0


# None of these is a way, a list of words, a row, a sight, a key or a text, nor
# one of the other things that the functions take.
ODD_KINDS = [
    None, True, False, 2, -1, 10 ** 30, 1j, "first", "0", "ab ", "c", b"", b"a", b"ab",
    (), ("ab",), ("a", "tab"), {}, {"a": "b"}, {"ab"}, frozenset(["a"]), range(2),
    Odd(), Odd, Agreeable(), len, [[]], [["a"]], [None], [1], [True], [b"a"], [("a",)],
    [Agreeable()], ["c"],
]

# A list of the empty text is a view row of the sight 1, but nothing else.
OTHER_KINDS = ODD_KINDS + [[""]]

WRONG_WAYS = OTHER_KINDS + [
    0, 1, "", [], list(P), P[:5], P + (0,), P + P, (P,), [P], set(P),
    ("", 1, "tab", "stay", "letter", 0),
    ("First", 1, "tab", "stay", "letter", 0),
    ("last", 1, "tab", "stay", "letter", 0),
    (b"first", 1, "tab", "stay", "letter", 0),
    (["first"], 1, "tab", "stay", "letter", 0),
    (None, 1, "tab", "stay", "letter", 0),
    (Agreeable(), 1, "tab", "stay", "letter", 0),
    ("first", 0, "tab", "stay", "letter", 0),
    ("first", 3, "tab", "stay", "letter", 0),
    ("first", -1, "tab", "stay", "letter", 0),
    ("first", True, "tab", "stay", "letter", 0),
    ("first", 1 + 0j, "tab", "stay", "letter", 0),
    ("first", "1", "tab", "stay", "letter", 0),
    ("first", None, "tab", "stay", "letter", 0),
    ("first", Agreeable(), "tab", "stay", "letter", 0),
    ("first", 1, "end", "stay", "letter", 0),
    ("first", 1, "", "stay", "letter", 0),
    ("first", 1, 1, "stay", "letter", 0),
    ("first", 1, ("tab",), "stay", "letter", 0),
    ("first", 1, Agreeable(), "stay", "letter", 0),
    ("first", 1, "tab", "back", "letter", 0),
    ("first", 1, "tab", "sta", "letter", 0),
    ("first", 1, "tab", None, "letter", 0),
    ("first", 1, "tab", Agreeable(), "letter", 0),
    ("first", 1, "tab", "stay", "none", 0),
    ("first", 1, "tab", "stay", "letters", 0),
    ("first", 1, "tab", "stay", True, 0),
    ("first", 1, "tab", "stay", Agreeable(), 0),
    ("first", 1, "tab", "stay", "letter", 2),
    ("first", 1, "tab", "stay", "letter", -1),
    ("first", 1, "tab", "stay", "letter", False),
    ("first", 1, "tab", "stay", "letter", True),
    ("first", 1, "tab", "stay", "letter", "0"),
    ("first", 1, "tab", "stay", "letter", None),
    ("first", 1, "tab", "stay", "letter", Agreeable()),
    (1, "first", "tab", "stay", "letter", 0),
]

WRONG_LISTS = OTHER_KINDS + [
    0, 1, "", "a", "ab", "aba", [], tuple(W), set(W), dict.fromkeys(W), [W],
    ["a", "b", "aa", "ab"], ["a", "a"], ["ab", "b", "ab"], ["ab", ""], ["abab"],
    ["aba", "aaaa"], ["ac"], ["a", "B"], ["A"], ["ab "], ["a\n"], ["\u0430"],
    ["ab", True], ["ab", None], ["ab", ["b"]], ["ab", b"b"], ["ab", Agreeable()],
]

WRONG_ROWS = OTHER_KINDS + [
    0, 1, "", "a", "tab", ("a",), ("end", "a"), {"a"}, {"tab": 1}, [["a"]],
    ["a"] * 41, ["tab", "blank"] * 30, ["Tab"], ["A"], ["ab"], ["aa"], ["space"],
    ["a", ""], ["a", "tab "], ["a", True], ["a", None], ["a", 0], ["a", b"b"],
    ["a", ("b",)], ["a", Agreeable()],
]

WRONG_SIGHTS = OTHER_KINDS + [
    3, "", "1", "a", [], [0], [1], (0,), {0}, {1: 1}, 0j, 1 + 0j,
]


def wrong_states(words):
    """Values that are not of the form of a state for a list of words."""
    order = tuple(words)
    return OTHER_KINDS + [
        0, 1, "", "a", [], ["", "", 0, order, ""], ("", "", 0, order),
        ("", "", 0, order, "", ""), (("", "", 0, order, ""),),
        ("aaaaa", "", 0, order, ""), ("c", "", 0, order, ""), (None, "", 0, order, ""),
        (0, "", 0, order, ""), ([], "", 0, order, ""), (b"", "", 0, order, ""),
        (Agreeable(), "", 0, order, ""),
        ("", "babab", 0, order, ""), ("", "A", 0, order, ""), ("", None, 0, order, ""),
        ("", ["a"], 0, order, ""), ("", Agreeable(), 0, order, ""),
        ("", "", 2, order, ""), ("", "", -1, order, ""), ("", "", True, order, ""),
        ("", "", False, order, ""), ("", "", "0", order, ""), ("", "", None, order, ""),
        ("", "", [0], order, ""), ("", "", 0j, order, ""), ("", "", Agreeable(), order, ""),
        ("", "", 0, list(words), ""), ("", "", 0, (), ""), ("", "", 0, order[1:], ""),
        ("", "", 0, order + order[:1], ""), ("", "", 0, order + ("bbb",), ""),
        ("", "", 0, order[1:] + ("bbb",), ""), ("", "", 0, order[:1] * len(order) + ("",), ""),
        ("", "", 0, order[1:] + (None,), ""), ("", "", 0, order[1:] + ([],), ""),
        ("", "", 0, order[1:] + (1,), ""), ("", "", 0, None, ""), ("", "", 0, words[0], ""),
        ("", "", 0, order[1:] + (Agreeable(),), ""), ("", "", 0, Agreeable(), ""),
        ("", "", 0, order, "aaaaa"), ("", "", 0, order, "c"), ("", "", 0, order, None),
        ("", "", 0, order, ("a",)), ("", "", 0, order, False),
        ("", "", 0, order, Agreeable()),
    ]


WRONG_FAMILIES = OTHER_KINDS + [
    0, 1, "", [], P, (P,), (P, Q), [P] * 9, [P, Q] * 5, [P, None], [None, P], [P, list(P)],
    [P, P[:5]], [P, P + (0,)], [[P]], [P, [Q]], [P, True], [P, "first"], {P}, {P: 1}, {0: P},
    [P, ("first", True, "tab", "stay", "letter", 0)],
    [P, ("first", 1, "tab", "stay", "letter", False)],
    [P, Agreeable()], list(P),
]

A_VIEW = {0: ("a", "b", ""), 1: ""}

# For each sight, values that are none of its views; those of the other sight are.
NO_VIEWS = {
    0: [
        "", "a", "abab", None, True, 0, 1, [], (), ["a", "b", ""], ("a", "b"),
        ("a", "b", "", ""), (("a", "b", ""),), ("aaaaa", "", ""), ("", "bbbbb", ""),
        ("", "", "ababa"), ("c", "", ""), ("", "A", ""), ("", "", "a "), (None, "", ""),
        ("", None, ""), ("", "", None), (True, "", ""), ("", False, ""), ("", "", 0),
        (1, 2, 3), (b"a", b"b", b""), ([], "", ""), (("a",), "", ""), {"a"}, {}, b"",
        Agreeable(), (Agreeable(), "b", ""), ("a", "b", Agreeable()),
    ],
    1: [
        ("a", "b", ""), ("", "", ""), ("a",), (), None, True, False, 0, 1, "aaaaa", "ababab",
        "c", "A", "a ", " ", "\n", b"", b"a", [], ["a"], {"a"}, {}, Agreeable(),
    ],
}


def wrong_views(sight):
    """Values that are no view rows of a sight."""
    view = A_VIEW[sight]
    mixed = [[view, value] for value in NO_VIEWS[sight]]
    return ODD_KINDS + mixed + [[value] for value in NO_VIEWS[sight]] + [
        0, 1, "", "a", "abab", (view,), (view, view), {view}, {view: 1}, [view] * 41,
        [view] * 100, [[view]], [[]], Agreeable(), [A_VIEW[1 - sight]],
    ]


def wrong_records(sight):
    """Values that are no records of a sight."""
    view = A_VIEW[sight]
    rows = [(row, [view]) for row in WRONG_ROWS]
    views = [(["a"], value) for value in wrong_views(sight)]
    return OTHER_KINDS + rows + views + [
        0, 1, "", [], [["a"], [view]], (["a"],), (["a"], [view], []), ([view], ["a"]),
        (["a"], []), ([], [view]), (["a", "b"], [view]), (["a"], [view] * 2),
        (["a"] * 41, [view] * 41), (["a"] * 40, [view] * 39), (["a"] * 39, [view] * 40),
        ((["a"], [view]),), Agreeable(), (Agreeable(), Agreeable()), {"a": view},
    ]


def wrong_record_lists(sight):
    """Values that are no lists of 1 to 12 records of a sight."""
    record = (["a"], [A_VIEW[sight]])
    alone = [[value] for value in wrong_records(sight)]
    last = [[record, value] for value in wrong_records(sight)]
    return OTHER_KINDS + alone + last + [
        0, 1, "", [], record, (record,), [record] * 13, [record] * 30, [[record]],
        [([], [])] * 13, {0: record}, Agreeable(),
    ]


# No texts of 1 to 4 letters.
WRONG_WANTED = OTHER_KINDS + [
    "", "aaaaa", "babab", "aaaaaa", "A", "a ", " a", "a\n", "abc", "\u0430", 0, 1, ["a"], ("a",),
    b"a", {"a"}, {"a": 1}, [], Agreeable(),
]

WRONG_LENGTHS = [value for value in OTHER_KINDS if value != 2 or isinstance(value, Agreeable)] + [
    41, 42, 100, -2, -40, "", "1", "40", [], [1], (1,), {1}, {1: 1}, 0j, 1 + 0j, b"1",
]

NO_KEYS = OTHER_KINDS + [
    "", "ab", "Tab", "A", "enter", "a ", 0, 1, ["a"], ("a",), {"a"}, {"a": 1}, b"a", [],
    Agreeable(), ["tab"], ("end",),
]

# Neither "blank" nor "end".
NO_ENDING_KEYS = OTHER_KINDS + [
    "a", "b", "tab", "back", "", "Blank", "END", "blank ", " end", "ends", "blan", "c",
    0, 1, ["blank"], ["end"], ("end",), ("blank",), {"blank"}, {"end": 1}, b"blank", b"end",
    [], Agreeable(),
]

NO_STRINGS = [value for value in OTHER_KINDS if not isinstance(value, str)] + [
    [], ["a"], list("ab"), list(P), P, ("ab",), b"ab", b"a,tab", b"first 1 tab stay letter 0", 0, 1,
    {"ab"}, {"ab": 1}, Agreeable(), W,
]
