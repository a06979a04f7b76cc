"""Points 7 to 10: depth, leaves, the part at a path, a part replaced."""

import copy
import unittest

from examples import LISTS, NUMBERS, WORDS, WRITTEN, nested
from nestnote.errors import NoPart, NoteError
from nestnote.parts import depth, leaves, part_at, with_part

NOTE = ["a", [10, ["b", -3], []], 7, [[]]]

# each a path within NOTE and the part that it leads to
PATHS = [
    ([], NOTE),
    ([0], "a"),
    ([1], [10, ["b", -3], []]),
    ([1, 0], 10),
    ([1, 1], ["b", -3]),
    ([1, 1, 0], "b"),
    ([1, 1, 1], -3),
    ([1, 2], []),
    ([2], 7),
    ([3], [[]]),
    ([3, 0], []),
]

BELOW_NOUGHT = [
    (NOTE, [-1]), (NOTE, [-4]), (NOTE, [-5]), (NOTE, [1, -1]), (NOTE, [1, 1, -2]), (NOTE, [-1, 0]), (NOTE, [-3, 0]),
    ([], [-1]), ([5], [-1]), (NOTE, [-(10**150)]), (NOTE, [3, 0, -1]), (NOTE, [1, -2, 0]),
]
LENGTH_OR_MORE = [
    (NOTE, [4]), (NOTE, [5]), (NOTE, [100]), (NOTE, [1, 3]), (NOTE, [1, 1, 2]), (NOTE, [3, 1]), (NOTE, [4, 0]),
    ([], [0]), ([], [1]), ([], [0, 0]), (NOTE, [1, 2, 0]), (NOTE, [3, 0, 0]), (NOTE, [10**150]), ([5], [1]),
]
IN_A_NUMBER_OR_A_WORD = [
    (5, [0]), (0, [0]), (-5, [0]), ("a", [0]), ("word", [0]), ("word", [3]), ("word", [-1]), (5, [-1]), ("word", [4]),
    (NOTE, [0, 0]), (NOTE, [2, 0]), (NOTE, [1, 0, 0]), (NOTE, [1, 1, 0, 0]), (NOTE, [1, 1, 1, 0]), (NOTE, [0, 0, 0]),
    (["word"], [0, 1]), ([["word"]], [0, 0, 2]), (5, [0, 0]),
]
NOWHERE = BELOW_NOUGHT + LENGTH_OR_MORE + IN_A_NUMBER_OR_A_WORD

# so great that Python doesn't write it out as figures
HUGE = 10**5000


def every_path(thing):
    paths = [[]]
    if isinstance(thing, list):
        for place, part in enumerate(thing):
            paths.extend([place] + rest for rest in every_path(part))
    return paths


class KeptTest(unittest.TestCase):
    def setUp(self):
        self.note = copy.deepcopy(NOTE)

    def tearDown(self):
        # No test may change what it hands in.
        self.assertEqual(repr(NOTE), repr(self.note))

    def same(self, answer, expected):
        # repr tells a whole number from True.
        self.assertEqual(repr(answer), repr(expected))


class DepthTest(KeptTest):
    def test_numbers_and_words(self):
        for thing, line in NUMBERS + WORDS:
            with self.subTest(line=line):
                self.same(depth(thing), 0)

    def test_the_empty_list(self):
        self.same(depth([]), 1)

    def test_lists(self):
        for thing, expected in (
            ([1], 1), (["a"], 1), ([1, 2, 3], 1), ([[]], 2), ([[], []], 2), ([[1]], 2), ([1, [2]], 2), ([[1], 2], 2),
            ([[], [[]], []], 3), ([[[]], [], 1], 3), ([1, [], [[]]], 3), ([[[["a"]]], [[]], 5], 4), (NOTE, 3),
            ([[1, [2]], [[3, [4]]], [5]], 4),
        ):
            with self.subTest(thing=thing):
                self.same(depth(thing), expected)

    def test_lists_one_within_the_other(self):
        for lists in (1, 2, 50, 99, 100, 101, 150):
            self.same(depth(nested(lists, 5)), lists)
            self.same(depth(nested(lists, "a")), lists)
            self.same(depth(nested(lists, [])), lists + 1)

    def test_the_deepest_at_each_place(self):
        for place in range(5):
            thing = [[1] for _ in range(5)]
            thing[place] = [[["x"]]]
            self.same(depth(thing), 4)

    def test_the_depth_is_the_deepest_line_of_brackets(self):
        for thing, line in LISTS:
            level = 0
            greatest = 0
            for sign in line:
                level += {"[": 1, "]": -1}.get(sign, 0)
                greatest = max(greatest, level)
            self.same(depth(thing), greatest)

    def test_the_thing_stays_as_it_was(self):
        for thing, _ in WRITTEN:
            ahead = copy.deepcopy(thing)
            depth(thing)
            self.same(thing, ahead)


class LeavesTest(KeptTest):
    def test_numbers_and_words(self):
        for thing, line in NUMBERS + WORDS:
            with self.subTest(line=line):
                self.same(leaves(thing), [thing])

    def test_lists_without_a_leaf(self):
        for thing in ([], [[]], [[], []], [[[]], [[], [[]]]], nested(100, [])):
            self.same(leaves(thing), [])

    def test_the_order(self):
        for thing, expected in (
            ([1, 2, 3], [1, 2, 3]),
            ([3, 2, 1], [3, 2, 1]),
            (["b", "a", 2, 1], ["b", "a", 2, 1]),
            ([1, [2, 3], 4], [1, 2, 3, 4]),
            ([[1, 2], [3, [4, 5]], 6], [1, 2, 3, 4, 5, 6]),
            ([[[["a"], "b"], "c"], "d"], ["a", "b", "c", "d"]),
            (["a", ["b", ["c", ["d"]]]], ["a", "b", "c", "d"]),
            ([[], 1, [], [[], 2], []], [1, 2]),
            (NOTE, ["a", 10, "b", -3, 7]),
        ):
            with self.subTest(thing=thing):
                self.same(leaves(thing), expected)

    def test_equal_leaves_are_all_there(self):
        self.same(leaves([1, [1, "a"], "a", 1]), [1, 1, "a", "a", 1])
        self.same(leaves([0, [0]]), [0, 0])

    def test_the_order_is_the_line_s(self):
        for thing, line in WRITTEN:
            written = line.replace("[", " ").replace("]", " ").split()
            self.assertEqual([str(leaf) for leaf in leaves(thing)], written)

    def test_lists_one_within_the_other(self):
        for lists in (1, 50, 99, 100, 101, 150):
            self.same(leaves(nested(lists, "a")), ["a"])
            self.same(leaves(nested(lists, [1, "b"])), [1, "b"])

    def test_the_same_list_at_two_places(self):
        inner = [1, "a"]
        self.same(leaves([inner, [inner]]), [1, "a", 1, "a"])

    def test_the_thing_stays_as_it_was(self):
        for thing, _ in WRITTEN:
            ahead = copy.deepcopy(thing)
            leaves(thing)
            self.same(thing, ahead)


class PartAtTest(KeptTest):
    def test_the_empty_path(self):
        for thing, line in WRITTEN:
            with self.subTest(line=line):
                self.same(part_at(thing, []), thing)

    def test_paths_to_numbers_words_and_lists(self):
        for path, part in PATHS:
            with self.subTest(path=path):
                self.same(part_at(NOTE, path), part)

    def test_first_and_last_places(self):
        thing = list(range(99))
        for place in range(99):
            self.same(part_at(thing, [place]), place)

    def test_a_long_path(self):
        for lists in (50, 99, 100, 101, 150):
            thing = nested(lists, "end")
            self.same(part_at(thing, [0] * lists), "end")
            self.same(part_at(thing, [0] * (lists - 1)), ["end"])
            with self.assertRaises(NoPart):
                part_at(thing, [0] * (lists + 1))
            with self.assertRaises(NoPart):
                part_at(thing, [0] * (lists - 1) + [1])

    def test_what_a_path_leads_on_from(self):
        thing = [[["x", "y"], ["z"]], [["u"], ["v", "w"]]]
        self.same(part_at(thing, [0, 0, 1]), "y")
        self.same(part_at(thing, [0, 1, 0]), "z")
        self.same(part_at(thing, [1, 0, 0]), "u")
        self.same(part_at(thing, [1, 1, 0]), "v")
        self.same(part_at(thing, [1, 1, 1]), "w")

    def test_a_place_below_nought(self):
        self.each_is_refused(BELOW_NOUGHT)

    def test_a_place_of_the_length_or_more(self):
        self.each_is_refused(LENGTH_OR_MORE)

    def test_a_place_in_a_number_or_a_word(self):
        self.each_is_refused(IN_A_NUMBER_OR_A_WORD)

    def test_a_huge_place(self):
        for place in (HUGE, -HUGE):
            for thing in (NOTE, [], 5, "a"):
                with self.assertRaises(NoPart):
                    part_at(thing, [place])

    def test_a_refusal_is_a_note_error(self):
        with self.assertRaises(NoteError):
            part_at([1], [1])

    def test_thing_and_path_stay_as_they_were(self):
        for thing, path in [(NOTE, path) for path, _ in PATHS] + NOWHERE:
            ahead = copy.deepcopy((thing, path))
            try:
                part_at(thing, path)
            except NoPart:
                pass
            self.same((thing, path), ahead)

    def each_is_refused(self, pairs):
        for thing, path in pairs:
            with self.subTest(thing=thing, path=path), self.assertRaises(NoPart):
                part_at(thing, path)


class WithPartTest(KeptTest):
    def test_the_empty_path_gives_the_other_part(self):
        for thing in (5, "a", [], NOTE):
            for part in (0, -7, "other", [], [1, ["b"]]):
                self.same(with_part(thing, [], part), part)

    def test_paths_to_numbers_words_and_lists(self):
        for path, expected in (
            ([0], ["new", [10, ["b", -3], []], 7, [[]]]),
            ([1], ["a", "new", 7, [[]]]),
            ([1, 0], ["a", ["new", ["b", -3], []], 7, [[]]]),
            ([1, 1], ["a", [10, "new", []], 7, [[]]]),
            ([1, 1, 0], ["a", [10, ["new", -3], []], 7, [[]]]),
            ([1, 1, 1], ["a", [10, ["b", "new"], []], 7, [[]]]),
            ([1, 2], ["a", [10, ["b", -3], "new"], 7, [[]]]),
            ([2], ["a", [10, ["b", -3], []], "new", [[]]]),
            ([3], ["a", [10, ["b", -3], []], 7, "new"]),
            ([3, 0], ["a", [10, ["b", -3], []], 7, ["new"]]),
        ):
            with self.subTest(path=path):
                self.same(with_part(NOTE, path, "new"), expected)

    def test_every_kind_of_part(self):
        for part in (0, 12, -(10**149), "q" * 100, [], [[]], [1, "b", [2]]):
            self.same(with_part([1, [2, 3], 4], [1], part), [1, part, 4])
            self.same(with_part([1, [2, 3], 4], [1, 1], part), [1, [2, part], 4])
            self.same(with_part([1, [2, 3], 4], [2], part), [1, [2, 3], part])

    def test_the_new_part_stands_there_and_all_else_as_before(self):
        for path in every_path(NOTE):
            changed = with_part(NOTE, path, ["new"])
            self.same(part_at(changed, path), ["new"])
            for other in every_path(NOTE):
                shared = min(len(path), len(other))
                if other[:shared] != path[:shared]:
                    self.same(part_at(changed, other), part_at(NOTE, other))

    def test_a_part_replaced_by_itself_changes_nothing(self):
        for path in every_path(NOTE):
            self.same(with_part(NOTE, path, part_at(NOTE, path)), NOTE)

    def test_equal_things_beside_it_stay(self):
        self.same(with_part([1, 1, 1], [1], 2), [1, 2, 1])
        self.same(with_part([[1], [1], [1]], [2, 0], 2), [[1], [1], [2]])

    def test_the_same_list_at_two_places(self):
        inner = [1, 2]
        self.same(with_part([inner, inner], [0, 1], "new"), [[1, "new"], [1, 2]])
        self.same(inner, [1, 2])

    def test_a_thing_put_into_itself(self):
        thing = [1, [2]]
        self.same(with_part(thing, [1, 0], thing), [1, [[1, [2]]]])
        self.same(thing, [1, [2]])

    def test_a_long_path(self):
        for lists in (50, 99, 100, 101, 150):
            thing = nested(lists, "end")
            self.same(with_part(thing, [0] * lists, 5), nested(lists, 5))
            self.same(thing, nested(lists, "end"))
            with self.assertRaises(NoPart):
                with_part(thing, [0] * (lists + 1), 5)

    def test_every_place_of_a_long_list(self):
        for place in range(99):
            expected = list(range(99))
            expected[place] = "new"
            self.same(with_part(list(range(99)), [place], "new"), expected)

    def test_a_place_below_nought(self):
        self.each_is_refused(BELOW_NOUGHT)

    def test_a_place_of_the_length_or_more(self):
        self.each_is_refused(LENGTH_OR_MORE)

    def test_a_place_in_a_number_or_a_word(self):
        self.each_is_refused(IN_A_NUMBER_OR_A_WORD)

    def test_a_huge_place(self):
        for place in (HUGE, -HUGE):
            for thing in (NOTE, [], 5, "a"):
                with self.assertRaises(NoPart):
                    with_part(thing, [place], 1)

    def test_a_refusal_is_a_note_error(self):
        with self.assertRaises(NoteError):
            with_part([1], [1], 2)

    def test_thing_path_and_part_stay_as_they_were(self):
        for thing, path in [(NOTE, path) for path, _ in PATHS] + NOWHERE:
            for part in (5, "new", [], [1, ["b"]]):
                ahead = copy.deepcopy((thing, path, part))
                try:
                    with_part(thing, path, part)
                except NoPart:
                    pass
                self.same((thing, path, part), ahead)

    def each_is_refused(self, pairs):
        for thing, path in pairs:
            with self.subTest(thing=thing, path=path), self.assertRaises(NoPart):
                with_part(thing, path, "new")


if __name__ == "__main__":
    unittest.main()
