"""Points 1 and 2: what a word is, and how a number is written."""

import itertools
import unittest

from nestnote.signs import is_number, is_word

LETTERS = "abcdefghijklmnopqrstuvwxyz"
FIGURES = "0123456789"
# Point 1: a line is made of the signs from the blank to "~" but the percent sign.
LINE_SIGNS = "".join(chr(code) for code in range(ord(" "), ord("~") + 1) if chr(code) != "%")


def lines_of(signs, longest):
    for length in range(longest + 1):
        for chosen in itertools.product(signs, repeat=length):
            yield "".join(chosen)


class LineTest(unittest.TestCase):
    # assertIs tells True from 1 and False from "" or None.
    def holds(self, asked, line):
        with self.subTest(line=line):
            self.assertIs(asked(line), True)

    def fails(self, asked, line):
        with self.subTest(line=line):
            self.assertIs(asked(line), False)


class IsWordTest(LineTest):
    def test_ordinary_words(self):
        for line in ("word", "nest", "note", "aa", "zz", "az", "za", LETTERS):
            self.holds(is_word, line)

    def test_words_of_one_letter(self):
        for line in LETTERS:
            self.holds(is_word, line)

    def test_long_words(self):
        for length in (99, 100, 101, 150):
            self.holds(is_word, "q" * length)
        self.holds(is_word, (LETTERS * 4)[:100])

    def test_the_empty_line_is_no_word(self):
        self.fails(is_word, "")

    def test_great_letters(self):
        for line in ("A", "Z", "Word", "woRd", "worD", "WORD", LETTERS.upper()):
            self.fails(is_word, line)

    def test_numbers_and_figures(self):
        for line in ("0", "1", "12", "-1", "a1", "1a", "a1b", "-a", "a-", "a-b"):
            self.fails(is_word, line)

    def test_blanks(self):
        for line in (" ", "  ", " a", "a ", "a b", "a  b", " a "):
            self.fails(is_word, line)

    def test_brackets(self):
        for line in ("[", "]", "[]", "[a]", "[a", "a]", "a[b", "a]b"):
            self.fails(is_word, line)

    def test_every_other_sign_at_every_place(self):
        for sign in LINE_SIGNS:
            if sign not in LETTERS:
                for line in (sign, sign + "ab", "a" + sign + "b", "ab" + sign):
                    self.fails(is_word, line)

    def test_one_wrong_sign_in_a_long_word(self):
        for place in range(100):
            self.fails(is_word, "a" * place + "A" + "a" * (99 - place))

    def test_every_line_of_two_signs(self):
        for line in lines_of(LINE_SIGNS, 2):
            expected = line != "" and set(line) <= set(LETTERS)
            self.assertIs(is_word(line), expected, line)


class IsNumberTest(LineTest):
    def test_nought(self):
        self.holds(is_number, "0")

    def test_numbers_of_one_figure(self):
        for figure in "123456789":
            self.holds(is_number, figure)
            self.holds(is_number, "-" + figure)

    def test_ordinary_numbers(self):
        for line in ("10", "42", "100", "907", "1234567890", "-10", "-42", "-100", "-907"):
            self.holds(is_number, line)

    def test_long_numbers(self):
        for length in (149, 150, 151, 200):
            self.holds(is_number, "9" * length)
            self.holds(is_number, "-" + "9" * length)
            self.holds(is_number, "1" + "0" * (length - 1))
            self.holds(is_number, "-1" + "0" * (length - 1))

    def test_the_empty_line_and_the_bare_sign(self):
        for line in ("", "-", "--", "+"):
            self.fails(is_number, line)

    def test_a_nought_too_many(self):
        for line in ("-0", "00", "000", "01", "-01", "-00", "007", "-007", "0" * 150, "0" + "1" * 149):
            self.fails(is_number, line)

    def test_signs_out_of_place(self):
        for line in ("+1", "+0", "-+1", "+-1", "--1", "1-", "1-2", "-1-", "0-", "1+", "- 1"):
            self.fails(is_number, line)

    def test_what_python_reads_as_a_number(self):
        for line in ("1_0", "1_000", "-1_0", "1.0", "1.", ".1", "1e3", "0x1", "0b1", "0o7"):
            self.fails(is_number, line)

    def test_blanks(self):
        for line in (" ", " 1", "1 ", "1 2", "-1 ", " -1", " 0", "0 ", "0 0"):
            self.fails(is_number, line)

    def test_letters_and_words(self):
        for line in ("a", "word", "a1", "1a", "1a2", "-a", "-1a", "0a", "a0", "O", "l"):
            self.fails(is_number, line)

    def test_every_other_sign_at_every_place(self):
        for sign in LINE_SIGNS:
            if sign not in FIGURES:
                for line in (sign, "1" + sign + "2", "12" + sign, "-" + sign + "12", "0" + sign):
                    self.fails(is_number, line)
                if sign != "-":
                    self.fails(is_number, sign + "12")

    def test_one_wrong_sign_in_a_long_number(self):
        for place in range(150):
            self.fails(is_number, "1" * place + "a" + "1" * (149 - place))

    def test_every_line_of_two_signs(self):
        written = {str(number) for number in range(-9, 100)}
        for line in lines_of(LINE_SIGNS, 2):
            self.assertIs(is_number(line), line in written, line)

    def test_every_short_line_of_figures_and_minus(self):
        written = {str(number) for number in range(-999, 10000)}
        for line in lines_of("-" + FIGURES, 4):
            self.assertIs(is_number(line), line in written, line)


class BothTest(unittest.TestCase):
    def test_no_line_is_a_word_and_a_number(self):
        for line in lines_of(LINE_SIGNS, 2):
            self.assertFalse(is_word(line) and is_number(line), line)


if __name__ == "__main__":
    unittest.main()
