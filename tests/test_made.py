"""Books made of other ones: points 7 and 8."""

import unittest
from itertools import product

from meetrows.books import Book
from meetrows.errors import BadName, TooMany
from things import (
    LETTERS, NO_NAMES, book_of, least_by_words, least_by_words_of, meets_all, mixed_books, sets_in, small_books, spoil,
)

ROWS = [["b", "c"], ["d", "c", "a"], ["d"], [], ["b", "c"]]
SETS = [sorted(row) for row in ROWS]
SOME_BOOKS = small_books()[::3] + mixed_books(60, list("abcdefg"), 8, 6)
PAIRS = list(zip(SOME_BOOKS[::2], SOME_BOOKS[1::2])) + list(product(mixed_books(8, list("abcdef"), 5, 7), repeat=2))


def numbered(rows):
    return list(enumerate(sorted(row) for row in rows))


class Made(unittest.TestCase):
    """What holds for all four ways to make a new Book."""

    WAYS = {
        "struck": lambda book: book.struck("c"),
        "struck by a name in no row": lambda book: book.struck("z"),
        "without": lambda book: book.without("d"),
        "without a name in no row": lambda book: book.without("z"),
        "joined": lambda book: book.joined(book_of([["a"]])),
        "joined with no rows": lambda book: book.joined(Book()),
        "joined ahead": lambda book: book_of([["a"]]).joined(book),
        "joined to no rows": lambda book: Book().joined(book),
        "joined with itself": lambda book: book.joined(book),
        "crossed": lambda book: book.crossed(book_of([["a"]])),
        "crossed with an empty row": lambda book: book.crossed(book_of([[]])),
        "crossed ahead": lambda book: book_of([["a"]]).crossed(book),
        "crossed with itself": lambda book: book.crossed(book),
    }

    def test_a_new_book_is_told_and_the_old_one_stays(self):
        for what, way in self.WAYS.items():
            with self.subTest(what):
                book = book_of(ROWS)
                made = way(book)
                self.assertIs(type(made), Book)
                self.assertIsNot(made, book)
                self.assertEqual(book.rows(), numbered(ROWS))
                self.assertEqual(book.put(["a"]), 5)

    def test_its_rows_are_numbered_from_0_on(self):
        for what, way in self.WAYS.items():
            with self.subTest(what):
                book = book_of([["z"], ["y"], *ROWS])
                book.take(0)
                book.take(1)
                made = way(book)
                many = len(made.rows())
                self.assertEqual([number for number, _ in made.rows()], list(range(many)))
                self.assertEqual(made.put(["a"]), many)

    def test_what_is_done_to_one_changes_no_other(self):
        for what, way in self.WAYS.items():
            with self.subTest(what):
                book = book_of(ROWS)
                made = way(book)
                rows = made.rows()
                book.take(0)
                book.put(["e"])
                self.assertEqual(made.rows(), rows)
                made.take(0)
                made.put(["f"])
                self.assertEqual(book.rows(), [*numbered(ROWS)[1:], (5, ["e"])])

    def test_what_is_told_of_one_changes_no_other(self):
        for what, way in self.WAYS.items():
            with self.subTest(what):
                book = book_of(ROWS)
                made = way(book)
                rows = made.rows()
                spoil(made.rows())
                spoil(book.rows())
                self.assertEqual((made.rows(), book.rows()), (rows, numbered(ROWS)))


class Struck(unittest.TestCase):
    def test_all_rows_without_the_name_in_them(self):
        self.assertEqual(book_of(ROWS).struck("c").rows(), numbered([["b"], ["a", "d"], ["d"], [], ["b"]]))
        self.assertEqual(book_of(ROWS).struck("d").rows(), numbered([["b", "c"], ["a", "c"], [], [], ["b", "c"]]))

    def test_a_name_that_stands_in_no_row(self):
        for name in ("z", "bc", "abcdefgh", "cc"):
            self.assertEqual(book_of(ROWS).struck(name).rows(), numbered(ROWS))
        self.assertEqual(book_of([["ab", "abc"]]).struck("a").rows(), [(0, ["ab", "abc"])])

    def test_without_rows(self):
        self.assertEqual(Book().struck("a").rows(), [])

    def test_a_full_book(self):
        rows = [[LETTERS[at % 12], "a"][:1 + (at % 12 > 0)] for at in range(30)]
        self.assertEqual(sets_in(book_of(rows).struck("m")), [sorted(row) for row in rows])
        self.assertEqual(sets_in(book_of(rows).struck("a"))[:3], [[], ["b"], ["c"]])

    def test_point_7_the_least_sets_in_which_it_does_not_stand(self):
        for rows in SOME_BOOKS:
            book = book_of(rows)
            for name in ["a", "ab", "b"]:
                wanted = [one for one in least_by_words(rows) if name not in one]
                self.assertEqual(book.struck(name).least(), wanted, (rows, name))


class Without(unittest.TestCase):
    def test_the_rows_in_which_it_does_not_stand(self):
        self.assertEqual(book_of(ROWS).without("c").rows(), numbered([["d"], []]))
        self.assertEqual(book_of(ROWS).without("a").rows(), numbered([["b", "c"], ["d"], [], ["b", "c"]]))
        self.assertEqual(book_of([["a"], ["a", "b"]]).without("a").rows(), [])

    def test_a_name_that_stands_in_no_row(self):
        for name in ("z", "bc", "abcdefgh", "cc"):
            self.assertEqual(book_of(ROWS).without(name).rows(), numbered(ROWS))
        self.assertEqual(book_of([["ab", "abc"]]).without("a").rows(), [(0, ["ab", "abc"])])

    def test_without_rows(self):
        self.assertEqual(Book().without("a").rows(), [])

    def test_point_7_the_least_sets_in_which_it_stands(self):
        for rows in SOME_BOOKS:
            book = book_of(rows)
            for name in ["a", "ab", "b"]:
                with_it = [
                    sorted([*one, name]) for one in book.without(name).least() if not meets_all(one, rows)
                ]
                wanted = [one for one in least_by_words(rows) if name in one]
                self.assertEqual(sorted(with_it, key=lambda one: (len(one), one)), wanted, (rows, name))


class ByNameRefused(unittest.TestCase):
    def test_bad_name(self):
        for what, thing in NO_NAMES.items():
            for book in (Book(), book_of(ROWS)):
                rows = book.rows()
                for way in (book.struck, book.without):
                    with self.subTest(what, way=way.__name__):
                        with self.assertRaises(BadName):
                            way(thing)
                        self.assertEqual(book.rows(), rows)


class Joined(unittest.TestCase):
    def test_the_rows_of_the_one_ahead_of_those_of_the_other(self):
        one, other = book_of([["b", "a"], ["c"]]), book_of([["d"], [], ["a", "b"]])
        self.assertEqual(one.joined(other).rows(), numbered([["a", "b"], ["c"], ["d"], [], ["a", "b"]]))
        self.assertEqual(other.joined(one).rows(), numbered([["d"], [], ["a", "b"], ["a", "b"], ["c"]]))
        self.assertEqual((one.rows(), other.rows()), (numbered([["a", "b"], ["c"]]), numbered([["d"], [], ["a", "b"]])))

    def test_with_a_book_without_rows(self):
        self.assertEqual(Book().joined(Book()).rows(), [])
        self.assertEqual(book_of(ROWS).joined(Book()).rows(), numbered(ROWS))
        self.assertEqual(Book().joined(book_of(ROWS)).rows(), numbered(ROWS))

    def test_with_itself(self):
        book = book_of(ROWS)
        self.assertEqual(book.joined(book).rows(), numbered(ROWS + ROWS))
        self.assertEqual(book.joined(book).joined(book.joined(book)).rows(), numbered(ROWS * 4))
        self.assertEqual(book.rows(), numbered(ROWS))

    def test_the_30th_row_and_the_31st(self):
        one, other = book_of([["a"]] * 15), book_of([["b"]] * 15)
        self.assertEqual(sets_in(one.joined(other)), [["a"]] * 15 + [["b"]] * 15)
        self.assertEqual(len(one.joined(one).rows()), 30)
        other.put(["a"])
        for ahead, behind in ((one, other), (other, one), (other, other)):
            with self.assertRaises(TooMany):
                ahead.joined(behind)
        self.assertEqual((len(one.rows()), len(other.rows())), (15, 16))
        self.assertEqual((one.put([]), other.put([])), (15, 16))

    def test_the_12th_name_and_the_13th(self):
        one, other = book_of([list(LETTERS[:7])]), book_of([list(LETTERS[5:12])])
        self.assertEqual(one.joined(other).names(), list(LETTERS[:12]))
        other.put(["m"])
        for ahead, behind in ((one, other), (other, one)):
            with self.assertRaises(TooMany):
                ahead.joined(behind)
        self.assertEqual((sets_in(one), sets_in(other)), ([list(LETTERS[:7])], [list(LETTERS[5:12]), ["m"]]))

    def test_rows_that_are_taken_do_not_count(self):
        one, other = book_of([["a"]] * 16), book_of([["b"]] * 15)
        one.take(3)
        self.assertEqual(len(one.joined(other).rows()), 30)

    def test_point_8_word_by_word(self):
        for rows, others in PAIRS:
            made = book_of(rows).joined(book_of(others))
            together = [a + b for a in least_by_words(rows) for b in least_by_words(others)]
            self.assertEqual(sets_in(made), [sorted(row) for row in rows + others])
            self.assertEqual(made.least(), least_by_words_of(together), (rows, others))


class Crossed(unittest.TestCase):
    def test_a_row_for_each_row_of_the_one_and_each_of_the_other(self):
        one, other = book_of([["b", "a"], ["c"]]), book_of([["d"], [], ["a", "c"]])
        self.assertEqual(one.crossed(other).rows(), numbered([
            ["a", "b", "d"], ["a", "b"], ["a", "b", "c"], ["c", "d"], ["c"], ["a", "c"],
        ]))
        self.assertEqual(other.crossed(one).rows(), numbered([
            ["a", "b", "d"], ["c", "d"], ["a", "b"], ["c"], ["a", "b", "c"], ["a", "c"],
        ]))
        self.assertEqual((sets_in(one), sets_in(other)), ([["a", "b"], ["c"]], [["d"], [], ["a", "c"]]))

    def test_with_a_book_without_rows(self):
        full = book_of([list(LETTERS[:12])] * 30)
        for book in (Book(), book_of(ROWS), full):
            self.assertEqual(book.crossed(Book()).rows(), [])
            self.assertEqual(Book().crossed(book).rows(), [])

    def test_with_an_empty_row(self):
        self.assertEqual(book_of(ROWS).crossed(book_of([[]])).rows(), numbered(ROWS))
        self.assertEqual(book_of([[]]).crossed(book_of([[]])).rows(), [(0, [])])

    def test_with_itself(self):
        book = book_of([["b"], ["a", "c"]])
        self.assertEqual(book.crossed(book).rows(), numbered([["b"], ["a", "b", "c"], ["a", "b", "c"], ["a", "c"]]))
        self.assertEqual(book.rows(), numbered([["b"], ["a", "c"]]))

    def test_the_30th_row_and_the_31st(self):
        five, six = book_of([["a"]] * 5), book_of([["b"]] * 6)
        self.assertEqual(sets_in(five.crossed(six)), [["a", "b"]] * 30)
        self.assertEqual(len(five.crossed(five).rows()), 25)
        many, one, two = book_of([["c"]] * 30), book_of([["a"]]), book_of([["a"], ["a"]])
        self.assertEqual(sets_in(many.crossed(one)), [["a", "c"]] * 30)
        for ahead, behind in ((six, six), (many, two), (two, many), (many, many)):
            with self.assertRaises(TooMany):
                ahead.crossed(behind)
        self.assertEqual((sets_in(six), sets_in(two)), ([["b"]] * 6, [["a"]] * 2))
        six.take(0)
        self.assertEqual(len(six.crossed(six).rows()), 25)

    def test_the_12th_name_and_the_13th(self):
        one, other = book_of([list(LETTERS[:7])]), book_of([list(LETTERS[5:12])])
        self.assertEqual(one.crossed(other).rows(), [(0, list(LETTERS[:12]))])
        more = book_of([list(LETTERS[5:12]), ["m"]])
        for ahead, behind in ((one, more), (more, one)):
            with self.assertRaises(TooMany):
                ahead.crossed(behind)
        self.assertEqual((sets_in(one), sets_in(more)), ([list(LETTERS[:7])], [list(LETTERS[5:12]), ["m"]]))
        self.assertEqual((one.put([]), more.put([])), (1, 2))

    def test_point_8_word_by_word(self):
        for rows, others in PAIRS:
            if len(rows) * len(others) <= 30:
                made = book_of(rows).crossed(book_of(others))
                either = least_by_words(rows) + least_by_words(others)
                self.assertEqual(sets_in(made), [sorted({*a, *b}) for a in rows for b in others])
                self.assertEqual(made.least(), least_by_words_of(either), (rows, others))


if __name__ == "__main__":
    unittest.main()
