import copy
import unittest
from itertools import permutations

from meetrows.errors import BadName, BadRow
from meetrows.growing import grown
from things import NO_LISTS, NO_NAMES, least_by_words, least_by_words_of, mixed_books, small_books, spoil


class Grown(unittest.TestCase):
    def test_the_first_row(self):
        self.assertEqual(grown([[]], ["b", "c", "a"]), [["a"], ["b"], ["c"]])
        self.assertEqual(grown([[]], ["abcdefgh"]), [["abcdefgh"]])

    def test_sets_that_meet_the_row_stay_and_others_take_up_a_name_of_it(self):
        self.assertEqual(grown([["a"], ["b"]], ["b", "c"]), [["b"], ["a", "c"]])
        self.assertEqual(grown([["a"], ["b"]], ["c", "d"]), [["a", "c"], ["a", "d"], ["b", "c"], ["b", "d"]])

    def test_all_meet_it(self):
        self.assertEqual(grown([["a"], ["b", "c"]], ["c", "a", "z"]), [["a"], ["b", "c"]])

    def test_what_another_one_lies_within_is_left_out(self):
        # b and a together hold b, which meets the row alone.
        self.assertEqual(grown([["a"], ["b"]], ["b"]), [["b"]])
        self.assertEqual(grown([["a", "b"], ["c"]], ["a", "d"]), [["a", "b"], ["a", "c"], ["c", "d"]])

    def test_ranked(self):
        self.assertEqual(
            grown([["x", "y"], ["b", "d"], ["a", "z"]], ["z", "d", "ab"]),
            [["a", "z"], ["b", "d"], ["ab", "x", "y"], ["d", "x", "y"], ["x", "y", "z"]],
        )

    def test_each_set_is_rising(self):
        self.assertEqual(grown([["c"]], ["a"]), [["a", "c"]])
        self.assertEqual(grown([["a", "c"]], ["b", "ab", "d"]), [["a", "ab", "c"], ["a", "b", "c"], ["a", "c", "d"]])

    def test_beginnings_are_other_names(self):
        self.assertEqual(grown([["ab"]], ["a"]), [["a", "ab"]])
        self.assertEqual(grown([["a"], ["b"]], ["ab"]), [["a", "ab"], ["ab", "b"]])

    def test_no_sets(self):
        self.assertEqual(grown([], ["a", "b"]), [])
        self.assertEqual(grown([], []), [])

    def test_an_empty_row_leaves_none(self):
        self.assertEqual(grown([[]], []), [])
        self.assertEqual(grown([["a"], ["b", "c"]], []), [])

    def test_the_same_row_once_more_changes_nothing(self):
        for rows in mixed_books(40, list("abcdefg"), 5, 1):
            least = least_by_words(rows)
            for row in rows:
                self.assertEqual(grown(least, row), least, (rows, row))

    def test_point_6_word_by_word(self):
        for rows in mixed_books(150, list("abcdefg"), 5, 2):
            ahead, row = least_by_words(rows[:-1]), rows[-1]
            behind = [one for one in ahead if set(one) & set(row)]
            behind += [[*one, name] for one in ahead if not set(one) & set(row) for name in row]
            self.assertEqual(grown(ahead, row), least_by_words_of(behind), rows)

    def test_row_after_row_gives_the_least_sets_of_all(self):
        for rows in small_books() + mixed_books(60, list("abcdefg"), 8, 3):
            sets = [[]]
            for at, row in enumerate(rows):
                sets = grown(sets, row)
                self.assertEqual(sets, least_by_words(rows[:at + 1]), rows)

    def test_in_any_order_of_the_rows_and_of_the_names(self):
        rows = [["a", "b"], ["c", "b"], ["d", "e", "a"], ["c", "d"]]
        wanted = least_by_words(rows)
        for order in permutations(rows):
            sets = [[]]
            for row in order:
                sets = grown(sets, row[::-1])
            self.assertEqual(sets, wanted)

    def test_more_names_and_rows_than_a_book_takes(self):
        names = [first + last for first in "abcd" for last in "efgh"]
        self.assertEqual(grown([[]], names[::-1]), [[name] for name in names])
        rows = [sorted({names[at % 5], names[at % 7]}) for at in range(40)]
        sets = [[]]
        for row in rows:
            sets = grown(sets, row)
        self.assertEqual(sets, least_by_words(rows))
        pairs = [[names[at], names[at + 8]] for at in range(8)]
        sets = [[]]
        for pair in pairs:
            sets = grown(sets, pair)
        self.assertEqual(len(sets), 2 ** 8)
        self.assertEqual(sets[0], names[:8])
        self.assertEqual(sets[-1], names[8:])

    def test_lists_are_told(self):
        told = grown([[]], ["b", "a"])
        self.assertEqual([type(told), type(told[0])], [list, list])


class GrownRefuses(unittest.TestCase):
    """A row is refused as put refuses it, whatever the sets ahead are."""

    def test_bad_row_for_what_is_no_list(self):
        for what, thing in NO_LISTS.items():
            for sets in ([], [[]], [["a"], ["b"]]):
                with self.subTest(what, sets=sets):
                    with self.assertRaises(BadRow):
                        grown(sets, thing)

    def test_bad_name_at_each_place(self):
        for what, thing in NO_NAMES.items():
            for row in ([thing], [thing, "b", "a"], ["b", thing, "a"], ["b", "a", thing], ["b", "b", thing]):
                with self.subTest(what):
                    with self.assertRaises(BadName):
                        grown([["a"], ["b"]], row)

    def test_bad_row_for_a_name_twice(self):
        for row in (["a", "a"], ["a", "b", "a"], ["c", "b", "b"]):
            for sets in ([], [[]], [["a"], ["b"]]):
                with self.subTest(row=row, sets=sets):
                    with self.assertRaises(BadRow):
                        grown(sets, row)


class GrownIsTheAskersOwn(unittest.TestCase):
    def test_what_is_handed_in_stays_as_it_was(self):
        sets, row = [["a", "c"], ["b"]], ["d", "b", "a"]
        before = copy.deepcopy((sets, row))
        spoil(grown(sets, row))
        self.assertEqual((sets, row), before)
        self.assertEqual(grown(sets, row), [["b"], ["a", "c"]])

    def test_what_was_handed_in_may_be_changed_behind_that(self):
        sets, row = [["a", "c"], ["b"]], ["d", "a"]
        told = grown(sets, row)
        spoil(sets)
        row.clear()
        self.assertEqual(told, [["a", "b"], ["a", "c"], ["b", "d"]])

    def test_told_sets_share_nothing(self):
        same = ["b"]
        told = grown([same, same], ["b", "c"])
        told[0].append("z")
        self.assertEqual((told, same), ([["b", "z"]], ["b"]))
        told = grown([["x"]], ["a", "b"])
        told[0].append("z")
        self.assertEqual(told, [["a", "x", "z"], ["b", "x"]])


if __name__ == "__main__":
    unittest.main()
