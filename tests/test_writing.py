"""Points 2, 3 and 4: how numbers, words and lists are written."""

import copy
import unittest

from examples import LINE_SIGNS, LISTS, NUMBERS, WORDS, WRITTEN
from nestnote.writing import shown


class ShownTest(unittest.TestCase):
    def each_is_shown(self, pairs):
        for thing, line in pairs:
            with self.subTest(line=line):
                answer = shown(thing)
                self.assertIsInstance(answer, str)
                self.assertEqual(answer, line)

    def test_nought(self):
        self.assertEqual(shown(0), "0")

    def test_numbers_of_one_figure(self):
        for figure in range(1, 10):
            self.assertEqual(shown(figure), "0123456789"[figure])
            self.assertEqual(shown(-figure), "-" + "0123456789"[figure])

    def test_numbers(self):
        self.each_is_shown(NUMBERS)

    def test_words(self):
        self.each_is_shown(WORDS)

    def test_the_empty_list(self):
        self.assertEqual(shown([]), "[]")

    def test_lists(self):
        self.each_is_shown(LISTS)

    def test_a_hundred_lists_one_within_the_other(self):
        thing = []
        for _ in range(99):
            thing = [thing]
        self.assertEqual(shown(thing), "[" * 100 + "]" * 100)

    def test_the_same_list_at_two_places(self):
        inner = [1, "a"]
        self.assertEqual(shown([inner, [inner], inner]), "[[1 a] [[1 a]] [1 a]]")

    def test_only_signs_of_a_line_are_written(self):
        for thing, _ in WRITTEN:
            self.assertLessEqual(set(shown(thing)), set(LINE_SIGNS))

    def test_the_thing_stays_as_it_was(self):
        for thing, line in WRITTEN:
            with self.subTest(line=line):
                ahead = copy.deepcopy(thing)
                shown(thing)
                self.assertEqual(repr(thing), repr(ahead))


if __name__ == "__main__":
    unittest.main()
