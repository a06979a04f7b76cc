"""Things and their lines, for several tests."""

LETTERS = "abcdefghijklmnopqrstuvwxyz"
# Point 1: a line is made of the signs from the blank to "~" but the percent sign.
LINE_SIGNS = "".join(chr(code) for code in range(ord(" "), ord("~") + 1) if chr(code) != "%")


def nested(lists, inner):
    # inner within that many lists, one within the other
    thing = inner
    for _ in range(lists):
        thing = [thing]
    return thing


NUMBERS = (
    [(number, str(number)) for number in range(-120, 121)]
    + [(10**figures - 1, "9" * figures) for figures in (1, 2, 149, 150, 151, 200)]
    + [(1 - 10**figures, "-" + "9" * figures) for figures in (1, 2, 149, 150, 151, 200)]
    + [(10**noughts, "1" + "0" * noughts) for noughts in (1, 2, 20, 149, 150)]
    + [(-(10**noughts), "-1" + "0" * noughts) for noughts in (1, 2, 20, 149, 150)]
)
WORDS = (
    [(letter, letter) for letter in LETTERS]
    + [(word, word) for word in ("nest", "note", "aa", "none", "true", "false", "inf", "nan", "e", "x", LETTERS)]
    + [("q" * letters, "q" * letters) for letters in (99, 100, 101, 150)]
)
LISTS = [
    ([], "[]"),
    ([0], "[0]"),
    ([-1], "[-1]"),
    (["a"], "[a]"),
    ([1, 2], "[1 2]"),
    (["a", "b"], "[a b]"),
    ([1, "a"], "[1 a]"),
    (["a", 1], "[a 1]"),
    ([0, 0, 0], "[0 0 0]"),
    ([-1, -20, 300], "[-1 -20 300]"),
    ([[]], "[[]]"),
    ([[], []], "[[] []]"),
    ([[[]]], "[[[]]]"),
    ([[], [[]], []], "[[] [[]] []]"),
    ([[1, 2], 3], "[[1 2] 3]"),
    ([1, [2, 3]], "[1 [2 3]]"),
    ([1, [2], 3], "[1 [2] 3]"),
    (["a", ["b", ["c"]], [], -7], "[a [b [c]] [] -7]"),
    ([[["a", "b"], ["c"]], [["d"]]], "[[[a b] [c]] [[d]]]"),
    ([["x", 0], ["y", -5], ["z", [10, 100]]], "[[x 0] [y -5] [z [10 100]]]"),
    (list(range(99)), "[" + " ".join(str(number) for number in range(99)) + "]"),
    ([[] for _ in range(99)], "[" + " ".join(["[]"] * 99) + "]"),
    (["q" * 100, 10**149, -(10**149)], "[" + "q" * 100 + " 1" + "0" * 149 + " -1" + "0" * 149 + "]"),
] + [
    pair
    for lists in (2, 10, 50, 99, 100, 101, 120)
    for pair in (
        (nested(lists, 5), "[" * lists + "5" + "]" * lists),
        (nested(lists, "deep"), "[" * lists + "deep" + "]" * lists),
        (nested(lists, []), "[" * lists + "[]" + "]" * lists),
        (nested(lists, [1, "a"]), "[" * lists + "[1 a]" + "]" * lists),
    )
]
# each a thing and the line that it is written as
WRITTEN = NUMBERS + WORDS + LISTS
