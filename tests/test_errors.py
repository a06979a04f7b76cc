"""The interface, nestnote/errors.py: which error stands under which."""

import unittest

from nestnote.errors import NoPart, NoteError, NoThing


class ErrorsTest(unittest.TestCase):
    def test_note_error_stands_under_value_error(self):
        self.assertEqual(NoteError.__bases__, (ValueError,))

    def test_both_refusals_stand_under_note_error(self):
        self.assertEqual(NoThing.__bases__, (NoteError,))
        self.assertEqual(NoPart.__bases__, (NoteError,))

    def test_neither_refusal_stands_under_the_other(self):
        self.assertFalse(issubclass(NoThing, NoPart))
        self.assertFalse(issubclass(NoPart, NoThing))

    def test_each_is_taken_as_a_value_error(self):
        for error in (NoteError, NoThing, NoPart):
            with self.subTest(error=error), self.assertRaises(ValueError):
                raise error("refused")

    def test_each_refusal_is_taken_as_a_note_error(self):
        for error in (NoThing, NoPart):
            with self.subTest(error=error), self.assertRaises(NoteError):
                raise error("refused")

    def test_each_is_made_with_and_without_words(self):
        for error in (NoteError, NoThing, NoPart):
            with self.subTest(error=error):
                self.assertEqual(str(error("refused")), "refused")
                self.assertEqual(str(error()), "")


if __name__ == "__main__":
    unittest.main()
