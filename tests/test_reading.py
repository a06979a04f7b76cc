"""Points 5 and 6, and point 1's reading again: which lines are read, to what, and where a refused one is at fault."""

import itertools
import re
import unittest

from examples import LETTERS, LINE_SIGNS, LISTS, NUMBERS, WORDS, WRITTEN
from nestnote.errors import NoteError, NoThing
from nestnote.reading import fault, read
from nestnote.writing import shown

# Point 6's own examples.
EXAMPLES = [
    ("[1 2", 4),
    ("1 2", 1),
    ("[01]", 2),
    ("-0", 1),
    ("-", 1),
    ("[ a]", 1),
    ("[a ]", 3),
    ("a1", 1),
    ("[a]]", 3),
    ("[[][]]", 3),
    ("[a[b]]", 2),
    ("]", 0),
    ("", 0),
]

# Refused lines by the kinds that point 5 names, each with the place of its first fault.
OTHER_SIGNS = [
    (".", 0), ("1.5", 1), ("a.b", 1), ("[1, 2]", 2), ("[1,2]", 2), ("(1)", 0), ("{}", 0), ('"a"', 0), ("'a'", 0),
    ("a_b", 1), ("1_0", 1), ("[a;b]", 2), ("#", 0), ("[~]", 1), ("[a!]", 2), ("[] .", 2), ("[1 .]", 3), ("@", 0),
    ("`", 0), ("[a{]", 2), ("[1/2]", 2), ("[1:2]", 2), ("1e3", 1), ("0x1", 1), ("\\", 0), ("[^]", 1),
]
GREAT_LETTERS = [("A", 0), ("Z", 0), ("Word", 0), ("woRd", 2), ("worD", 3), ("[a B]", 3), ("[aB]", 2), ("NONE", 0)]
PLUSES = [("+", 0), ("+1", 0), ("+0", 0), ("+a", 0), ("[+1]", 1), ("[1 +2]", 3), ("-+1", 1), ("1+", 1), ("[1+2]", 2)]
WRONG_NUMBERS = [
    ("00", 1), ("01", 1), ("007", 1), ("-0", 1), ("-00", 1), ("-01", 1), ("--1", 1), ("1-", 1), ("1-2", 1), ("0-", 1),
    ("-", 1), ("[-]", 2), ("[- 1]", 2), ("- 1", 1), ("[00]", 2), ("[0 00]", 4), ("[1 -0]", 4), ("[-", 2), ("-a", 1),
    ("-[1]", 1), ("[1 -]", 4), ("0" * 150, 1), ("-0" + "1" * 149, 1), ("1a", 1), ("0a", 1), ("a1", 1), ("a-", 1),
    ("a-1", 1), ("[1a]", 2), ("[a1]", 2), ("[a-1]", 2), ("[0a]", 2), ("9" * 150 + "-", 150),
]
TWO_BLANKS = [("[a  b]", 3), ("[1  2]", 3), ("[[]  []]", 4), ("[a b  c]", 5), ("a  b", 1), ("  ", 0), ("[  ]", 1)]
BLANKS_AT_AN_END = [
    (" ", 0), (" a", 0), ("a ", 1), (" 1", 0), ("1 ", 1), ("0 ", 1), ("-1 ", 2), (" []", 0), ("[] ", 2), ("[a] ", 3),
    (" [a b]", 0), ("[a b] ", 5),
]
BLANKS_BY_A_BRACKET = [
    ("[ ]", 1), ("[ a]", 1), ("[a ]", 3), ("[ 1]", 1), ("[1 ]", 3), ("[ []]", 1), ("[[] ]", 4), ("[[ ]]", 2),
    ("[a [ b]]", 4), ("[a [b ]]", 6), ("[a b ]", 5), ("[ a b]", 1),
]
UNMATCHED_BRACKETS = [
    ("[", 1), ("]", 0), ("[[", 2), ("[[]", 3), ("[]]", 2), ("][", 0), ("[a", 2), ("a]", 1), ("a[", 1), ("1]", 1),
    ("1[", 1), ("[a]]", 3), ("[[a]", 4), ("[[a] b", 6), ("[a [b]", 6), ("[a] b]", 3), ("]]", 0), ("-]", 1),
    ("[" * 100, 100), ("[" * 100 + "]" * 99, 199), ("[" * 100 + "]" * 101, 200),
]
TWO_THINGS = [
    ("1 2", 1), ("a b", 1), ("a 1", 1), ("1 a", 1), ("0 0", 1), ("[] []", 2), ("[a] [b]", 3), ("[] a", 2), ("a []", 1),
    ("[][]", 2), ("[]a", 2), ("a[]", 1), ("[]1", 2), ("1[]", 1), ("[]-1", 2), ("[]0", 2),
]
NO_BLANK_BETWEEN = [
    ("[[][]]", 3), ("[a[b]]", 2), ("[[a]b]", 4), ("[1[]]", 2), ("[[]1]", 3), ("[[]-1]", 3), ("[0[]]", 2), ("[[]0]", 3),
    ("[a[]]", 2), ("[[]a]", 3), ("[a-1]", 2), ("[1-1]", 2), ("[0-1]", 2), ("[a1]", 2), ("[1a]", 2), ("[x [y][z]]", 6),
]
EMPTY_LINE = [("", 0)]
STOPPED_EARLY = [("[a ", 3), ("[1 2 ", 5), ("[[] ", 4), ("[a [", 4), ("[0", 2), ("[-5", 3), ("[[1] -", 6), ("[ab", 3)]
REFUSED = (
    EXAMPLES + OTHER_SIGNS + GREAT_LETTERS + PLUSES + WRONG_NUMBERS + TWO_BLANKS + BLANKS_AT_AN_END
    + BLANKS_BY_A_BRACKET + UNMATCHED_BRACKETS + TWO_THINGS + NO_BLANK_BETWEEN + EMPTY_LINE + STOPPED_EARLY
)

# A second account of the document, for comparing: "@" takes the place of a list that is well written.
LEAF = r"(?:[a-z]+|0|-?[1-9][0-9]*|@)"
INNERMOST = re.compile(r"\[(?:" + LEAF + "(?: " + LEAF + r")*)?\]")


def is_things_line(line):
    if "@" in line:
        return False
    shorter = INNERMOST.sub("@", line)
    while shorter != line:
        line = shorter
        shorter = INNERMOST.sub("@", line)
    return re.fullmatch(LEAF, line) is not None


def is_beginning(line):
    # Nothing, or a figure, and the brackets that are still to be closed: some such end fits every beginning.
    closing = "]" * (line.count("[") - line.count("]"))
    return is_things_line(line + closing) or is_things_line(line + "1" + closing)


def expected_fault(line):
    if is_things_line(line):
        return None
    return max(length for length in range(len(line) + 1) if is_beginning(line[:length]))


def lines_of(signs, longest):
    for length in range(longest + 1):
        for chosen in itertools.product(signs, repeat=length):
            yield "".join(chosen)


def spelled(choices, signs):
    # every text whose signs are, place by place, among the choices
    allowed = [[sign for sign in choice if sign in signs] for choice in choices]
    return ["".join(chosen) for chosen in itertools.product(*allowed)]


class ShortLines:
    """Every thing's line of the signs, by length, made from points 2 to 4 alone."""

    def __init__(self, signs, longest):
        self.lines = [[]]
        self.rows = [[""]]
        for length in range(1, longest + 1):
            self.lines.append(self.leaves(signs, length) + self.lists(length))
            self.rows.append(self.rows_of(length))

    def leaves(self, signs, length):
        words = spelled([LETTERS] * length, signs)
        positive = spelled(["123456789"] + ["0123456789"] * (length - 1), signs)
        negative = spelled(["-", "123456789"] + ["0123456789"] * (length - 2), signs) if length >= 2 else []
        nought = spelled(["0"], signs) if length == 1 else []
        return words + positive + negative + nought

    def lists(self, length):
        return ["[" + row + "]" for row in self.rows[length - 2]] if length >= 2 else []

    def rows_of(self, length):
        rows = list(self.lines[length])
        for first in range(1, length - 1):
            rest = self.rows[length - 1 - first]
            rows.extend(line + " " + row for line in self.lines[first] for row in rest)
        return rows

    def beginnings(self, longest):
        lines = itertools.chain.from_iterable(self.lines)
        return {line[:length] for line in lines for length in range(min(longest, len(line)) + 1)}


class ReadTest(unittest.TestCase):
    def each_is_read(self, pairs):
        for thing, line in pairs:
            with self.subTest(line=line):
                # repr tells a number from a word, and a whole number from True.
                self.assertEqual(repr(read(line)), repr(thing))

    def test_numbers(self):
        self.each_is_read(NUMBERS)

    def test_words(self):
        self.each_is_read(WORDS)

    def test_lists(self):
        self.each_is_read(LISTS)

    def test_the_kinds(self):
        self.assertIs(type(read("12")), int)
        self.assertIs(type(read("-12")), int)
        self.assertIs(type(read("0")), int)
        self.assertIs(type(read("1")), int)
        self.assertIs(type(read("a")), str)
        self.assertIs(type(read("[]")), list)
        self.assertEqual([type(part) for part in read("[1 a [] 0 true]")], [int, str, list, int, str])

    def test_what_is_written_is_read_to_the_same_thing(self):
        for thing, _ in WRITTEN:
            self.assertEqual(repr(read(shown(thing))), repr(thing))

    def test_what_is_read_is_written_as_the_same_line(self):
        for line in lines_of("[] 01-a", 5):
            if is_things_line(line):
                self.assertEqual(shown(read(line)), line)

    def test_a_word_may_be_long_in_a_line(self):
        for length in (100, 101, 5000):
            self.assertEqual(read("z" * length), "z" * length)
            self.assertEqual(read("[" + "z" * length + "]"), ["z" * length])

    def test_a_line_may_have_many_things(self):
        line = "[" + " ".join(["1 a []"] * 5000) + "]"
        # assertEqual would take minutes to tell two such lists apart.
        self.assertTrue(read(line) == [1, "a", []] * 5000)

    def test_a_line_may_be_deep(self):
        thing = read("[" * 5000 + "a" + "]" * 5000)
        for _ in range(5000):
            self.assertIsInstance(thing, list)
            self.assertEqual(len(thing), 1)
            thing = thing[0]
        self.assertEqual(thing, "a")

    def test_lists_alike_are_not_one_list(self):
        first, second = read("[[] []]")
        self.assertIsNot(first, second)

    def test_a_line_read_twice_gives_two_lists(self):
        first = read("[1 [2]]")
        first[1].append(3)
        self.assertEqual(read("[1 [2]]"), [1, [2]])


class RefusedTest(unittest.TestCase):
    def each_is_refused(self, pairs):
        for line, _ in pairs:
            with self.subTest(line=line), self.assertRaises(NoThing):
                read(line)

    def test_the_examples(self):
        self.each_is_refused(EXAMPLES)

    def test_other_signs(self):
        self.each_is_refused(OTHER_SIGNS)

    def test_great_letters(self):
        self.each_is_refused(GREAT_LETTERS)

    def test_pluses(self):
        self.each_is_refused(PLUSES)

    def test_numbers_that_are_written_wrong(self):
        self.each_is_refused(WRONG_NUMBERS)

    def test_two_blanks(self):
        self.each_is_refused(TWO_BLANKS)

    def test_blanks_at_an_end(self):
        self.each_is_refused(BLANKS_AT_AN_END)

    def test_blanks_by_the_inside_of_a_bracket(self):
        self.each_is_refused(BLANKS_BY_A_BRACKET)

    def test_brackets_that_do_not_match(self):
        self.each_is_refused(UNMATCHED_BRACKETS)

    def test_two_things_outside_of_a_list(self):
        self.each_is_refused(TWO_THINGS)

    def test_two_things_of_a_list_without_a_blank(self):
        self.each_is_refused(NO_BLANK_BETWEEN)

    def test_the_empty_line(self):
        self.each_is_refused(EMPTY_LINE)

    def test_lines_that_stop_early(self):
        self.each_is_refused(STOPPED_EARLY)

    def test_a_refusal_is_a_note_error(self):
        with self.assertRaises(NoteError):
            read("[1 2")

    def test_just_the_lines_at_fault_are_refused(self):
        for line in lines_of("[] 01-a", 5):
            if fault(line) is None:
                read(line)
            else:
                with self.assertRaises(NoThing, msg=line):
                    read(line)


class FaultTest(unittest.TestCase):
    def test_the_examples(self):
        for line, place in EXAMPLES:
            with self.subTest(line=line):
                self.assertEqual(fault(line), place)

    def test_every_refused_line(self):
        for line, place in REFUSED:
            with self.subTest(line=line):
                answer = fault(line)
                self.assertIs(type(answer), int)
                self.assertEqual(answer, place)

    def test_good_lines_have_none(self):
        for _, line in WRITTEN:
            with self.subTest(line=line):
                self.assertIsNone(fault(line))

    def test_the_fault_of_all_short_lines(self):
        for signs, longest in (("[] 01-a", 5), ("[] a", 7), ("[]", 10), ("019-", 5), ("az0", 6)):
            # No beginning needs more signs to its end than it has itself, but for the empty one.
            beginnings = ShortLines(signs, 2 * longest).beginnings(longest)
            whole = set(itertools.chain.from_iterable(ShortLines(signs, longest).lines))
            for line in lines_of(signs, longest):
                place = max(length for length in range(len(line) + 1) if line[:length] in beginnings)
                self.assertEqual(fault(line), None if line in whole else place, line)

    def test_every_line_of_two_signs(self):
        for line in lines_of(LINE_SIGNS, 2):
            self.assertEqual(fault(line), expected_fault(line), line)

    def test_good_lines_with_one_sign_more_less_or_changed(self):
        for good in ("[a [-10 b] [] 0]", "[[[]] [x y]]", "-120", "word", "[0]"):
            for place in range(len(good) + 1):
                self.check(good[:place])
                self.check(good[:place] + good[place + 1:])
                for sign in LINE_SIGNS:
                    self.check(good[:place] + sign + good[place:])
                    self.check(good[:place] + sign + good[place + 1:])

    def check(self, line):
        self.assertEqual(fault(line), expected_fault(line), line)

    def test_every_letter_and_figure(self):
        for letter in LETTERS:
            self.assertIsNone(fault("[" + letter + " a" + letter + "]"))
            self.assertEqual(fault("[a " + letter.upper() + "]"), 3)
        for figure in "123456789":
            self.assertIsNone(fault("[" + figure + " -" + figure + " 1" + figure + "]"))
            self.assertEqual(fault("[0" + figure + "]"), 2)

    def test_long_lines(self):
        self.assertEqual(fault("[" * 5000), 5000)
        self.assertEqual(fault("[" * 5000 + "]" * 4999), 9999)
        self.assertEqual(fault("[" * 5000 + "]" * 5001), 10000)
        self.assertIsNone(fault("[" * 5000 + "]" * 5000))
        self.assertEqual(fault("[" + "a " * 5000 + "]"), 10001)
        self.assertEqual(fault("a" * 5000 + "A"), 5000)

    def test_long_numbers(self):
        for figures in (149, 150, 151, 200):
            self.assertIsNone(fault("7" * figures))
            self.assertIsNone(fault("[-" + "7" * figures + "]"))
            self.assertEqual(fault("7" * figures + "a"), figures)


if __name__ == "__main__":
    unittest.main()
