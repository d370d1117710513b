"""Rows put and taken: point 1 and the limits of a book."""

import unittest

from meetrows import books
from meetrows.books import Book
from meetrows.errors import BadName, BadRow, MeetError, NoRow, TooMany
from things import LETTERS, NO_LISTS, NO_NAMES, NO_NUMBERS, book_of, sets_in, spoil


def full_of_rows():
    """A book of 30 rows over two names."""
    return book_of([["a", "b"][at % 2:] for at in range(30)])


def full_of_names():
    """A book with 12 names in three rows; c to f stand in the second row alone."""
    return book_of([["a", "b"], list("fedc"), list("lkjihg") + ["a", "b"]])


class Put(unittest.TestCase):
    def refused(self, book, row, kind):
        """The refusal is of that kind, and the book stays as it was, up to its next number."""
        rows, names = book.rows(), book.names()
        with self.assertRaises(MeetError) as held:
            book.put(row)
        self.assertIs(type(held.exception), kind)
        self.assertEqual((book.rows(), book.names()), (rows, names))

    def test_a_new_book_has_no_rows(self):
        self.assertEqual(Book().rows(), [])
        self.assertEqual(Book().names(), [])

    def test_numbers_from_0_on(self):
        book = Book()
        self.assertEqual([book.put(row) for row in (["a"], ["b", "a"], [], ["c"])], [0, 1, 2, 3])
        self.assertIs(type(book.put(["d"])), int)

    def test_rows_are_told_with_their_numbers_as_sets(self):
        book = book_of([["b", "a"], [], ["c", "ab", "abc", "a"]])
        self.assertEqual(book.rows(), [(0, ["a", "b"]), (1, []), (2, ["a", "ab", "abc", "c"])])

    def test_kinds_of_what_is_told(self):
        told = book_of([["b"], ["a"]]).rows()
        self.assertEqual([type(told), type(told[0]), type(told[0][0]), type(told[0][1])], [list, tuple, int, list])
        self.assertIs(type(book_of([["b"]]).names()), list)

    def test_like_rows_each_have_a_number(self):
        book = book_of([["a", "b"], ["b", "a"], [], ["a", "b"], []])
        self.assertEqual(book.rows(), [(0, ["a", "b"]), (1, ["a", "b"]), (2, []), (3, ["a", "b"]), (4, [])])

    def test_names_of_one_and_of_eight_letters(self):
        book = book_of([["z", "abcdefgh"], ["a"]])
        self.assertEqual(book.rows(), [(0, ["abcdefgh", "z"]), (1, ["a"])])
        self.assertEqual(book.names(), ["a", "abcdefgh", "z"])

    def test_names_are_those_that_stand_in_rows_each_once_rising(self):
        self.assertEqual(book_of([["c", "a"], ["b", "c"], [], ["ab"]]).names(), ["a", "ab", "b", "c"])
        self.assertEqual(book_of([[], []]).names(), [])

    def test_bad_row_for_what_is_no_list(self):
        for what, thing in NO_LISTS.items():
            for book in (Book(), book_of([["a"]]), full_of_rows(), full_of_names()):
                with self.subTest(what):
                    self.refused(book, thing, BadRow)

    def test_bad_name_at_each_place(self):
        for what, thing in NO_NAMES.items():
            for row in ([thing], [thing, "b", "a"], ["b", thing, "a"], ["b", "a", thing], [thing, thing]):
                with self.subTest(what):
                    self.refused(book_of([["a"]]), row, BadName)

    def test_bad_row_for_a_name_twice(self):
        for row in (["a", "a"], ["a", "b", "a"], ["b", "a", "a"], ["c", "c", "c"], ["abcdefgh", "a", "abcdefgh"]):
            with self.subTest(row):
                self.refused(Book(), row, BadRow)

    def test_bad_name_ahead_of_a_name_twice(self):
        for what, thing in NO_NAMES.items():
            for row in (["a", "a", thing], [thing, "a", "a"], ["a", thing, "a"]):
                with self.subTest(what):
                    self.refused(Book(), row, BadName)

    def test_bad_name_and_a_name_twice_ahead_of_too_many(self):
        for book in (full_of_rows(), full_of_names()):
            for row, kind in (
                (["A"], BadName), (["m", 7], BadName), (["m", "m", ""], BadName), (list(LETTERS) + [True], BadName),
                (["m", "m"], BadRow), (["a", "a"], BadRow), (list(LETTERS) + ["a"], BadRow),
            ):
                with self.subTest(row):
                    self.refused(book, row, kind)

    def test_what_is_refused_uses_up_no_number(self):
        book = book_of([["a"]])
        for row in (None, ["A"], ["a", "a"], list(LETTERS)):
            with self.assertRaises(MeetError):
                book.put(row)
        self.assertEqual(book.put(["b"]), 1)
        self.assertEqual(book.rows(), [(0, ["a"]), (1, ["b"])])

    def test_the_list_handed_in_stays_as_it_was(self):
        for row in (["c", "a", "b"], ["b", "a", "b"], ["b", "", "a"], list("zyxwvutsrqponmlkj")):
            before = list(row)
            try:
                Book().put(row)
            except MeetError:
                pass
            self.assertEqual(row, before)

    def test_the_list_handed_in_may_be_changed_behind_that(self):
        book = Book()
        row = ["b", "a"]
        book.put(row)
        row.append("c")
        row[0] = "A"
        book.put(["d"])
        row.clear()
        self.assertEqual(book.rows(), [(0, ["a", "b"]), (1, ["d"])])
        self.assertEqual(book.names(), ["a", "b", "d"])
        same = ["e"]
        book.put(same)
        book.put(same)
        same.append("f")
        self.assertEqual(sets_in(book)[2:], [["e"], ["e"]])

    def test_what_is_told_is_the_askers_own(self):
        book = book_of([["b", "a"], [], ["c"]])
        rows, names = book.rows(), book.names()
        spoil(rows)
        spoil(names)
        self.assertEqual(book.rows(), [(0, ["a", "b"]), (1, []), (2, ["c"])])
        self.assertEqual(book.names(), ["a", "b", "c"])
        self.assertEqual(book.least(), [])

    def test_what_was_told_stays_whatever_is_done_later(self):
        book = book_of([["b", "a"]])
        rows, names = book.rows(), book.names()
        book.put(["c"])
        book.take(0)
        self.assertEqual((rows, names), ([(0, ["a", "b"])], ["a", "b"]))


class Limits(unittest.TestCase):
    def test_they_are_told(self):
        for place in (books, Book, Book()):
            self.assertEqual((place.MOST_ROWS, place.MOST_NAMES), (30, 12))

    def test_the_30th_row_and_the_31st(self):
        book = Book()
        self.assertEqual([book.put(["a"]) for _ in range(30)], list(range(30)))
        for row in (["a"], [], ["b"], list(LETTERS)):
            with self.assertRaises(TooMany):
                book.put(row)
        self.assertEqual(book.rows(), [(at, ["a"]) for at in range(30)])

    def test_rows_count_that_are_there_then(self):
        book = full_of_rows()
        book.take(7)
        book.take(29)
        self.assertEqual([book.put(["b"]), book.put(["c"])], [30, 31])
        with self.assertRaises(TooMany):
            book.put(["a"])
        self.assertEqual([number for number, _ in book.rows()], [*range(7), *range(8, 29), 30, 31])
        book.take(31)
        self.assertEqual(book.put([]), 32)

    def test_more_than_30_rows_one_after_the_other(self):
        book = Book()
        for at in range(100):
            self.assertEqual(book.put([LETTERS[at % 26]]), at)
            book.take(at)
        self.assertEqual((book.rows(), book.names()), ([], []))

    def test_the_12th_name_and_the_13th_in_one_row(self):
        book = Book()
        with self.assertRaises(TooMany):
            book.put(list(LETTERS[:13]))
        self.assertEqual((book.rows(), book.names()), ([], []))
        self.assertEqual(book.put(list(LETTERS[:12])), 0)
        self.assertEqual(book.names(), list(LETTERS[:12]))

    def test_the_12th_name_and_the_13th_row_by_row(self):
        book = Book()
        for letter in LETTERS[:12]:
            book.put([letter])
        for row in (["m"], ["a", "m"], ["m", "n"]):
            with self.assertRaises(TooMany):
                book.put(row)
        self.assertEqual(book.names(), list(LETTERS[:12]))
        self.assertEqual(book.put(list(LETTERS[11::-1])), 12)
        self.assertEqual(book.put([]), 13)

    def test_names_are_counted_once_over_all_rows(self):
        book = book_of([list("abcdefgh")])
        with self.assertRaises(TooMany):
            book.put(list("hijklm"))
        self.assertEqual(book.put(list("ghijkl")), 1)
        self.assertEqual(len(book.names()), 12)

    def test_names_count_that_stand_in_rows_then(self):
        book = full_of_names()
        with self.assertRaises(TooMany):
            book.put(["m"])
        book.take(0)
        # a and b stand in the last row, too.
        with self.assertRaises(TooMany):
            book.put(["m"])
        book.take(1)
        self.assertEqual(book.put(list("mnop")), 3)
        self.assertEqual(book.names(), list("abghijklmnop"))
        with self.assertRaises(TooMany):
            book.put(["c"])

    def test_full_books_still_answer(self):
        book = book_of([list(LETTERS[at % 6:at % 6 + 7]) for at in range(30)])
        self.assertEqual(len(book.names()), 12)
        self.assertEqual(book.least()[0], ["f"])


class Take(unittest.TestCase):
    def test_nothing_is_told_and_the_row_is_gone(self):
        book = book_of([["a", "b"], ["c"], ["b", "d"]])
        self.assertIsNone(book.take(1))
        self.assertEqual(book.rows(), [(0, ["a", "b"]), (2, ["b", "d"])])
        self.assertEqual(book.names(), ["a", "b", "d"])

    def test_only_that_row_of_like_ones(self):
        book = book_of([["a"], ["a"], ["a"]])
        book.take(1)
        self.assertEqual(book.rows(), [(0, ["a"]), (2, ["a"])])

    def test_a_number_is_never_told_twice(self):
        book = book_of([["a"], ["b"]])
        book.take(1)
        self.assertEqual(book.put(["c"]), 2)
        book.take(0)
        book.take(2)
        self.assertEqual(book.rows(), [])
        self.assertEqual(book.put(["b"]), 3)
        self.assertEqual(book.rows(), [(3, ["b"])])

    def test_no_row_for_what_is_no_number(self):
        for what, thing in NO_NUMBERS.items():
            book = book_of([["a"], ["b"]])
            with self.subTest(what):
                with self.assertRaises(NoRow):
                    book.take(thing)
                self.assertEqual(book.rows(), [(0, ["a"]), (1, ["b"])])

    def test_no_row_for_a_row_that_is_not_there(self):
        book = book_of([["a"], ["b"], ["c"]])
        book.take(1)
        for number in (1, 3, 4, 30, 31, -1, -2, -3):
            with self.subTest(number):
                with self.assertRaises(NoRow):
                    book.take(number)
        self.assertEqual(book.rows(), [(0, ["a"]), (2, ["c"])])
        self.assertEqual(book.put(["d"]), 3)

    def test_no_row_without_rows(self):
        for number in (0, 1, -1, False):
            with self.assertRaises(NoRow):
                Book().take(number)

    def test_numbers_of_one_book_say_nothing_of_another(self):
        one, other = book_of([["a"], ["b"]]), book_of([["a"]])
        with self.assertRaises(NoRow):
            other.take(1)
        one.take(0)
        self.assertEqual((one.rows(), other.rows()), ([(1, ["b"])], [(0, ["a"])]))


if __name__ == "__main__":
    unittest.main()
