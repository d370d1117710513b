"""Books as texts: point 10."""

import unittest

from meetrows.books import Book
from meetrows.errors import MeetError, Unread
from meetrows.notes import read, text_of
from things import LETTERS, OTHER_KINDS, WRONG_TEXTS, book_of, mixed_books, sets_in, small_books

WRITTEN = "a bc\n-\nabcdefgh z\nb\n-\na bc"
ROWS = [["a", "bc"], [], ["abcdefgh", "z"], ["b"], [], ["a", "bc"]]
FULL_OF_ROWS = "\n".join(["a b"] * 30)


def rows_by_words(text):
    """Point 10: the rows of the book whose text it is, None where it is the text of none."""
    if text == "":
        return []
    rows = [[] if line == "-" else line.split(" ") for line in text.split("\n")]
    names = {name for row in rows for name in row}
    small = all(1 <= len(name) <= 8 and set(name) <= set(LETTERS) for name in names)
    rising = all(row == sorted(set(row)) for row in rows)
    return rows if small and rising and len(rows) <= 30 and len(names) <= 12 else None


class TextOf(unittest.TestCase):
    def test_a_line_for_each_row_in_order_its_names_rising(self):
        self.assertEqual(text_of(book_of([["bc", "a"], [], ["z", "abcdefgh"], ["b"], [], ["a", "bc"]])), WRITTEN)

    def test_one_row(self):
        self.assertEqual(text_of(book_of([["a"]])), "a")
        self.assertEqual(text_of(book_of([["b", "ab", "a"]])), "a ab b")

    def test_nothing_without_rows(self):
        self.assertEqual(text_of(Book()), "")
        book = book_of([["a"]])
        book.take(0)
        self.assertEqual(text_of(book), "")

    def test_empty_rows(self):
        self.assertEqual(text_of(book_of([[]])), "-")
        self.assertEqual(text_of(book_of([[], [], ["a"]])), "-\n-\na")

    def test_rows_that_are_taken_leave_no_line(self):
        book = book_of([["a"], ["b"], ["c"]])
        book.take(1)
        book.put(["b", "a"])
        self.assertEqual(text_of(book), "a\nc\na b")

    def test_a_full_book(self):
        self.assertEqual(text_of(book_of([["b", "a"]] * 30)), FULL_OF_ROWS)
        self.assertEqual(text_of(book_of([list(LETTERS[11::-1])])), "a b c d e f g h i j k l")

    def test_a_text_is_told_and_the_book_stays(self):
        book = book_of(ROWS)
        self.assertIs(type(text_of(book)), str)
        self.assertEqual(book.rows(), list(enumerate(ROWS)))
        self.assertEqual(book.put([]), 6)


class Read(unittest.TestCase):
    def test_each_line_is_a_row(self):
        self.assertEqual(read(WRITTEN).rows(), list(enumerate(ROWS)))

    def test_a_text_without_lines(self):
        book = read("")
        self.assertIs(type(book), Book)
        self.assertEqual((book.rows(), book.least()), ([], [[]]))
        self.assertEqual(book.put(["a"]), 0)

    def test_empty_rows(self):
        self.assertEqual(read("-").rows(), [(0, [])])
        self.assertEqual(read("-\n-").rows(), [(0, []), (1, [])])
        self.assertEqual(read("a\n-").rows(), [(0, ["a"]), (1, [])])

    def test_names_of_one_and_of_eight_letters(self):
        self.assertEqual(read("abcdefgh z").rows(), [(0, ["abcdefgh", "z"])])

    def test_a_row_twice(self):
        self.assertEqual(sets_in(read("a b\na b")), [["a", "b"], ["a", "b"]])

    def test_30_lines_and_more(self):
        self.assertEqual(sets_in(read(FULL_OF_ROWS)), [["a", "b"]] * 30)
        for more in ("a", "-", "a b", ""):
            for text in (FULL_OF_ROWS + "\n" + more, more + "\n" + FULL_OF_ROWS):
                with self.assertRaises(Unread):
                    read(text)
        with self.assertRaises(Unread):
            read("\n".join(["a"] * 1000))

    def test_12_names_and_more(self):
        letters = LETTERS[:12]
        for sign in (" ", "\n"):
            self.assertEqual(read(sign.join(letters)).names(), list(letters))
            with self.assertRaises(Unread):
                read(sign.join(LETTERS[:13]))
        with self.assertRaises(Unread):
            read(" ".join(letters) + "\nm")

    def test_numbers_go_on_behind_the_lines(self):
        book = read("a\nb")
        self.assertEqual(book.put(["c"]), 2)
        book.take(0)
        self.assertEqual(book.rows(), [(1, ["b"]), (2, ["c"])])

    def test_each_reading_is_a_book_of_its_own(self):
        one, other = read("a\nb"), read("a\nb")
        one.take(0)
        self.assertEqual(other.rows(), [(0, ["a"]), (1, ["b"])])

    def test_what_is_written_is_read(self):
        for rows in small_books() + mixed_books(60, list(LETTERS[:12]), 30, 8):
            book = read(text_of(book_of(rows)))
            self.assertEqual(book.rows(), list(enumerate(sorted(row) for row in rows)))

    def test_rows_only_not_their_numbers(self):
        book = book_of([["a"], ["c", "b"], ["d"]])
        book.take(0)
        self.assertEqual(read(text_of(book)).rows(), [(0, ["b", "c"]), (1, ["d"])])


class ReadRefuses(unittest.TestCase):
    def test_what_is_no_text(self):
        for what, thing in {**OTHER_KINDS, "book": Book(), "lines": ["a", "b"], "empty list": []}.items():
            with self.subTest(what):
                with self.assertRaises(Unread):
                    read(thing)

    def test_line_ends_elsewhere(self):
        for text in ("\n", "a\n", "\na", "a\n\nb", "-\n", "\n-", WRITTEN + "\n", "a\r\nb", "a\rb", "a\r", "a\x0bb",
                     "a\x0cb", "a\x1cb", "a\x85b", "a\u2028b"):
            with self.subTest(text):
                with self.assertRaises(Unread):
                    read(text)

    def test_blanks_elsewhere(self):
        for text in (" ", " a", "a ", "a  b", "a \nb", "a\n b", "a\tb", "a\u00a0b", "a\u3000b", "- ", " -", "a\n "):
            with self.subTest(text):
                with self.assertRaises(Unread):
                    read(text)

    def test_names_that_do_not_rise(self):
        for text in ("b a", "a c b", "a a", "a b b", "a b a", "b ab", "abc ab", "a b\nc a", "c a\na b"):
            with self.subTest(text):
                with self.assertRaises(Unread):
                    read(text)

    def test_dashes_elsewhere(self):
        for text in ("--", "- -", "-a", "a-", "a -", "- a", "\u2013", "\u2212", "-\n--"):
            with self.subTest(text):
                with self.assertRaises(Unread):
                    read(text)

    def test_what_is_no_name(self):
        for what, thing in WRONG_TEXTS.items():
            for text in (f"{thing}", f"{thing} zz", f"A{thing} a", f"a {thing}", f"a\nb {thing}\nc"):
                if rows_by_words(text) is None:
                    with self.subTest(what, text=text):
                        with self.assertRaises(Unread):
                            read(text)

    def test_one_sign_wrong_at_each_place(self):
        signs = ["", " ", "\n", "-", "a", "b", "z", "A", "0", ",", "\t", "\r", "\0", "\u00e4"]
        for text in (WRITTEN, FULL_OF_ROWS, "-", "a", ""):
            changed = [text[:at] + sign + text[at + 1:] for at in range(len(text)) for sign in signs]
            changed += [text[:at] + sign + text[at:] for at in range(len(text) + 1) for sign in signs]
            for other in changed:
                rows = rows_by_words(other)
                if rows is None:
                    with self.assertRaises(Unread):
                        read(other)
                else:
                    self.assertEqual(sets_in(read(other)), rows)
                    self.assertEqual(text_of(read(other)), other)

    def test_the_refusal_is_of_its_own_kind_alone(self):
        for text in ("A", "a a", "b a", "\n".join(["a"] * 31), " ".join(LETTERS), None):
            with self.assertRaises(MeetError) as held:
                read(text)
            self.assertIs(type(held.exception), Unread)


if __name__ == "__main__":
    unittest.main()
