"""The least sets of a book, and what they tell of its names and rows: points 2 to 5, and 9."""

import unittest
from itertools import permutations, product

from meetrows.books import Book
from meetrows.errors import BadName, BadRow, MeetError, NoMeet
from meetrows.growing import grown
from things import (
    LETTERS, NO_LISTS, NO_NAMES, book_of, least_by_words, least_by_words_of, meets_all, mixed_books, sets_in,
    small_books, spoil, subsets,
)

LARGE_BOOKS = mixed_books(12, list(LETTERS[:12]), 30, 4)
SOME_BOOKS = small_books() + mixed_books(120, list("abcdefg"), 9, 5)
ROWS = [["b", "c"], ["a", "c", "d"], ["d", "e"], ["c", "a", "d", "e"]]


class Least(unittest.TestCase):
    def test_of_as_many_by_the_first_name_that_differs(self):
        self.assertEqual(book_of(ROWS).least(), [["b", "d"], ["c", "d"], ["c", "e"], ["a", "b", "e"]])

    def test_one_row(self):
        self.assertEqual(book_of([["b", "abcdefgh", "ab"]]).least(), [["ab"], ["abcdefgh"], ["b"]])

    def test_without_rows_the_empty_set_alone(self):
        self.assertEqual(Book().least(), [[]])
        book = book_of([["a"]])
        book.take(0)
        self.assertEqual(book.least(), [[]])

    def test_with_an_empty_row_none(self):
        for rows in ([[]], [[], []], [["a"], []], [[], ["a", "b"], ["c"]]):
            self.assertEqual(book_of(rows).least(), [])

    def test_a_row_twice_changes_nothing(self):
        self.assertEqual(book_of(ROWS + ROWS).least(), book_of(ROWS).least())

    def test_in_any_order_of_the_rows(self):
        wanted = book_of(ROWS).least()
        for rows in permutations(ROWS):
            self.assertEqual(book_of(rows).least(), wanted)

    def test_point_2_word_by_word(self):
        for rows in SOME_BOOKS + LARGE_BOOKS:
            self.assertEqual(book_of(rows).least(), least_by_words(rows), rows)

    def test_rows_put_and_taken(self):
        book = book_of(ROWS)
        for taken in (2, 0, 3):
            self.assertEqual(book.least(), least_by_words(sets_in(book)))
            book.take(taken)
            self.assertEqual(book.least(), least_by_words(sets_in(book)))
            book.put([LETTERS[taken], "z"])
        self.assertEqual(book.least(), least_by_words([["a", "c", "d"], ["c", "z"], ["a", "z"], ["d", "z"]]))

    def test_many_least_sets(self):
        # Six pairs of names: one of each, in any mixture.
        pairs = [[LETTERS[at], LETTERS[at + 6]] for at in range(6)]
        self.assertEqual(book_of(pairs).least(), sorted(sorted(one) for one in product(*pairs)))

    def test_lists_are_told(self):
        told = book_of([["a"]]).least()
        self.assertEqual([type(told), type(told[0]), type(Book().least()[0])], [list, list, list])


class Fewest(unittest.TestCase):
    def test_how_many_names_the_shortest_has(self):
        self.assertEqual(book_of(ROWS).fewest(), 2)
        self.assertEqual(book_of([["a"], ["b"], ["c"], ["a", "d"]]).fewest(), 3)
        self.assertEqual(book_of([["a", "b"], ["a", "c"], ["a", "d"]]).fewest(), 1)

    def test_without_rows_none_are_needed(self):
        self.assertEqual(Book().fewest(), 0)
        self.assertIs(type(Book().fewest()), int)

    def test_none_with_an_empty_row(self):
        self.assertIsNone(book_of([[]]).fewest())
        self.assertIsNone(book_of([["a"], []]).fewest())

    def test_word_by_word(self):
        for rows in SOME_BOOKS:
            lengths = [len(one) for one in least_by_words(rows)]
            self.assertEqual(book_of(rows).fewest(), min(lengths, default=None), rows)


class Meets(unittest.TestCase):
    def test_each_row_or_not(self):
        book = book_of(ROWS)
        self.assertIs(book.meets(["b", "d"]), True)
        self.assertIs(book.meets(["e", "b", "a", "e"]), True)
        self.assertIs(book.meets(["c"]), False)
        self.assertIs(book.meets(["a", "b"]), False)
        self.assertIs(book.meets([]), False)

    def test_names_that_stand_in_no_row(self):
        book = book_of([["a", "b"]])
        self.assertIs(book.meets(["z", "abcdefgh"]), False)
        self.assertIs(book.meets(list(LETTERS)), True)

    def test_without_rows_and_with_an_empty_one(self):
        for names in ([], ["a"], ["b", "a", "b"]):
            self.assertIs(Book().meets(names), True)
            self.assertIs(book_of([[]]).meets(names), False)
            self.assertIs(book_of([["a", "b"], []]).meets(names), False)

    def test_point_2_word_by_word(self):
        for rows in SOME_BOOKS:
            book = book_of(rows)
            for one in subsets(["a", "ab", "b", "c"]):
                self.assertIs(book.meets(one[::-1] + one), meets_all(one, rows), (rows, one))


class Pared(unittest.TestCase):
    def test_the_last_name_is_left_out_first(self):
        self.assertEqual(book_of([["a", "b", "c"]]).pared(["a", "b", "c"]), ["a"])
        self.assertEqual(book_of([["a", "c"], ["b", "c"]]).pared(["a", "b", "c"]), ["a", "b"])
        self.assertEqual(book_of([["a"], ["a", "c"], ["b", "c"]]).pared(["a", "b", "c"]), ["a", "b"])
        self.assertEqual(book_of([["c"], ["b", "c"], ["a"]]).pared(["a", "b", "c"]), ["a", "c"])

    def test_in_any_order_also_twice(self):
        book = book_of(ROWS)
        for names in permutations(["a", "b", "c", "d", "e"]):
            self.assertEqual(book.pared(list(names)), ["b", "d"])
            self.assertEqual(book.pared([*names, *names[::-1]]), book.pared(sorted(names)))

    def test_a_least_set_stays(self):
        for rows in SOME_BOOKS:
            book = book_of(rows)
            for one in book.least():
                self.assertEqual(book.pared(one[::-1]), one)

    def test_names_that_stand_in_no_row_are_left_out(self):
        self.assertEqual(book_of([["b", "c"]]).pared(["z", "c", "a", "abcdefgh"]), ["c"])
        self.assertEqual(book_of([["b", "c"]]).pared(list(LETTERS)), ["b"])

    def test_without_rows(self):
        self.assertEqual(Book().pared([]), [])
        self.assertEqual(Book().pared(["b", "a", "b"]), [])

    def test_no_meet(self):
        for rows, names in (
            ([["a", "b"]], []), ([["a", "b"]], ["c"]), ([["a"], ["b"]], ["a"]), ([["a"], ["ab"]], ["a", "b"]),
            ([[]], []), ([[]], ["a"]), ([["a"], []], ["a"]),
        ):
            with self.subTest(rows=rows, names=names):
                with self.assertRaises(NoMeet):
                    book_of(rows).pared(names)

    def test_point_4_word_by_word(self):
        for rows in SOME_BOOKS:
            book = book_of(rows)
            names = book.names()
            for one in subsets(names) if len(names) < 5 else [names, names[1:], names[::2], names[:-1]]:
                if meets_all(one, rows):
                    told = book.pared(one)
                    self.assertEqual(told, least_by_paring(one, rows), (rows, one))
                    self.assertIn(told, least_by_words(rows))
                else:
                    with self.assertRaises(NoMeet):
                        book.pared(one)


def least_by_paring(one, rows):
    """Point 4: the names left out one by one, the last one first, where the rest still meets."""
    for name in sorted(one, reverse=True):
        rest = [other for other in one if other != name]
        one = rest if meets_all(rest, rows) else one
    return one


class Own(unittest.TestCase):
    def test_the_first_row_of_its_own_for_each_name(self):
        book = book_of([["a", "b"], ["a", "c"], ["b", "d"], ["a", "d"], ["b"]])
        self.assertEqual(book.own(["b", "a"]), [("a", 1), ("b", 2)])
        self.assertEqual(book_of(ROWS).own(["a", "b", "e"]), [("a", 1), ("b", 0), ("e", 2)])

    def test_numbers_are_those_of_the_book(self):
        book = book_of([["a"], ["b"], ["a", "c"], ["b"]])
        book.take(0)
        book.take(1)
        self.assertEqual(book.own(["a", "b"]), [("a", 2), ("b", 3)])
        book.put(["a"])
        book.take(2)
        self.assertEqual(book.own(["a", "b"]), [("a", 4), ("b", 3)])

    def test_in_any_order_also_twice(self):
        self.assertEqual(book_of(ROWS).own(["e", "b", "a", "b", "e"]), [("a", 1), ("b", 0), ("e", 2)])

    def test_without_rows(self):
        self.assertEqual(Book().own([]), [])
        with self.assertRaises(NoMeet):
            Book().own(["a"])

    def test_no_meet_where_the_names_do_not_meet_the_book(self):
        for rows, names in (
            ([["a", "b"]], []), ([["a", "b"]], ["c"]), ([["a"], ["b"]], ["b"]), ([[]], []), ([["a"], []], ["a"]),
        ):
            with self.subTest(rows=rows, names=names):
                with self.assertRaises(NoMeet):
                    book_of(rows).own(names)

    def test_no_meet_where_they_meet_it_but_are_no_least_set(self):
        for rows, names in (
            ([["a", "b"]], ["a", "b"]), ([["a"]], ["a", "z"]), ([["b", "c"], ["a", "c"]], ["a", "b", "c"]),
            ([["b", "c"], ["a", "c"]], ["b", "c"]), ([["b", "c"], ["a", "c"]], ["a", "c"]),
        ):
            with self.subTest(rows=rows, names=names):
                with self.assertRaises(NoMeet):
                    book_of(rows).own(names)

    def test_point_4_word_by_word(self):
        for rows in SOME_BOOKS:
            book = book_of(rows)
            least = least_by_words(rows)
            for one in subsets(["a", "ab", "b"]) + least:
                if one in least:
                    wanted = [
                        (name, [set(one) & set(row) for row in rows].index({name})) for name in one
                    ]
                    self.assertEqual(book.own(one), wanted, (rows, one))
                else:
                    with self.assertRaises(NoMeet):
                        book.own(one)

    def test_kinds_of_what_is_told(self):
        told = book_of([["a"]]).own(["a"])
        self.assertEqual([type(told), *map(type, told), *map(type, told[0])], [list, tuple, str, int])


class ListsOfNames(unittest.TestCase):
    """meets, pared and own refuse alike what is no list of names."""

    BOOKS = ([], [[]], [["a", "b"]], [["a"], ["b"]])

    def test_bad_row_for_what_is_no_list(self):
        for what, thing in NO_LISTS.items():
            for book in map(book_of, self.BOOKS):
                for asked in (book.meets, book.pared, book.own):
                    with self.subTest(what, asked=asked.__name__):
                        with self.assertRaises(BadRow):
                            asked(thing)

    def test_bad_name_at_each_place(self):
        for what, thing in NO_NAMES.items():
            for book in map(book_of, self.BOOKS):
                for asked in (book.meets, book.pared, book.own):
                    for names in ([thing], [thing, "b", "a"], ["a", thing, "b"], ["b", "a", thing], ["a", "a", thing]):
                        with self.subTest(what, asked=asked.__name__):
                            with self.assertRaises(BadName):
                                asked(names)

    def test_what_is_handed_in_stays_as_it_was(self):
        book = book_of(ROWS)
        for names in (["d", "c", "d"], ["c"], ["b", "d", "a"], ["b", "A"]):
            for asked in (book.meets, book.pared, book.own):
                handed = list(names)
                try:
                    asked(handed)
                except MeetError:
                    pass
                self.assertEqual(handed, names)
        self.assertEqual(sets_in(book), [sorted(row) for row in ROWS])

    def test_what_was_handed_in_may_be_changed_behind_that(self):
        book = book_of([["a"], ["b"]])
        names = ["a", "b"]
        pared, own = book.pared(names), book.own(names)
        names.clear()
        self.assertEqual((pared, own), (["a", "b"], [("a", 0), ("b", 1)]))

    def test_what_is_told_is_the_askers_own(self):
        book = book_of([["a"], ["b"]])
        names = ["a", "b"]
        spoil(book.pared(names))
        spoil(book.own(names))
        self.assertEqual(names, ["a", "b"])
        self.assertEqual((book.pared(names), book.own(names)), (["a", "b"], [("a", 0), ("b", 1)]))


class LeastRows(unittest.TestCase):
    def test_only_those_within_which_no_other_lies(self):
        rows = [["b", "c", "a"], ["c", "b"], ["d"], ["a", "e"], ["d", "e"]]
        self.assertEqual(book_of(rows).least_rows(), [["d"], ["a", "e"], ["b", "c"]])

    def test_a_row_twice_is_told_once(self):
        self.assertEqual(book_of([["b", "a"], ["c"], ["a", "b"], ["c"]]).least_rows(), [["c"], ["a", "b"]])

    def test_without_rows_and_with_an_empty_one(self):
        self.assertEqual(Book().least_rows(), [])
        self.assertEqual(book_of([["a"], [], ["b"], []]).least_rows(), [[]])

    def test_point_5_word_by_word(self):
        for rows in SOME_BOOKS + LARGE_BOOKS:
            self.assertEqual(book_of(rows).least_rows(), least_by_words_of(rows), rows)

    def test_the_least_sets_are_those_of_the_least_rows_alone(self):
        for rows in SOME_BOOKS:
            book = book_of(rows)
            self.assertEqual(book_of(book.least_rows()).least(), book.least(), rows)

    def test_the_least_sets_of_the_book_of_the_least_sets(self):
        for rows in SOME_BOOKS:
            book = book_of(rows)
            if len(book.least()) <= 30:
                self.assertEqual(book_of(book.least()).least(), book.least_rows(), rows)
            sets = [[]]
            for one in book.least():
                sets = grown(sets, one)
            self.assertEqual(sets, book.least_rows(), rows)


class NeededAndIdle(unittest.TestCase):
    def test_needed_where_a_row_of_it_alone_is_there(self):
        book = book_of([["b", "a"], ["c"], ["c", "d"], ["ab"], ["c"]])
        self.assertEqual(book.needed(), ["ab", "c"])
        self.assertEqual(book_of([["a", "b"], ["a", "c"]]).needed(), [])

    def test_idle_where_it_stands_in_no_least_row(self):
        book = book_of([["b", "a"], ["c"], ["e", "c", "d"], ["c", "a", "ab"]])
        self.assertEqual(book.idle(), ["ab", "d", "e"])
        self.assertEqual(book_of([["a", "b"], ["a", "c"]]).idle(), [])

    def test_without_rows(self):
        self.assertEqual((Book().needed(), Book().idle()), ([], []))

    def test_with_an_empty_row_none_is_needed_and_all_are_idle(self):
        book = book_of([["b"], ["a"], [], ["c", "a"]])
        self.assertEqual((book.needed(), book.idle()), ([], ["a", "b", "c"]))
        self.assertEqual((book_of([[]]).needed(), book_of([[]]).idle()), ([], []))
        book.take(2)
        self.assertEqual((book.needed(), book.idle()), (["a", "b"], ["c"]))

    def test_point_9_word_by_word(self):
        for rows in SOME_BOOKS + LARGE_BOOKS:
            book = book_of(rows)
            names = sorted({name for row in rows for name in row})
            least = least_by_words(rows)
            needed = [name for name in names if least and all(name in one for one in least)]
            idle = [name for name in names if not any(name in one for one in least)]
            self.assertEqual((book.needed(), book.idle()), (needed, idle), rows)


class WhatIsTold(unittest.TestCase):
    ASKED = ("least", "least_rows", "needed", "idle", "names", "rows")

    def test_it_is_the_askers_own(self):
        for rows in ([], [[]], [["a"]], [["c"], ["b", "a"], ["c", "d"]], [["a"], []], [["b", "a"], ["a", "b"]]):
            for asked in self.ASKED:
                with self.subTest(rows=rows, asked=asked):
                    book, same = book_of(rows), book_of(rows)
                    spoil(getattr(book, asked)())
                    for other in self.ASKED:
                        self.assertEqual(getattr(book, other)(), getattr(same, other)())

    def test_nothing_done_or_asked_later_changes_it(self):
        book = book_of([["c"], ["b", "a"], ["c", "d"]])
        told = [getattr(book, asked)() for asked in self.ASKED]
        again = [getattr(book, asked)() for asked in self.ASKED]
        book.take(1)
        book.put(["e"])
        for asked in self.ASKED:
            getattr(book, asked)()
        self.assertEqual(told, again)

    def test_sets_of_it_share_nothing(self):
        told = book_of([["a", "b"], ["a", "b"]]).rows()
        told[0][1].append("z")
        self.assertEqual(told[1], (1, ["a", "b"]))

    def test_asking_changes_nothing(self):
        book = book_of(ROWS)
        for asked in self.ASKED:
            first = getattr(book, asked)()
            self.assertEqual(getattr(book, asked)(), first)
        self.assertEqual(sets_in(book), [sorted(row) for row in ROWS])
        self.assertEqual(book.put(["a"]), len(ROWS))


if __name__ == "__main__":
    unittest.main()
