import string
import unittest

from meetrows.errors import BadName, BadRow, MeetError, NoMeet, NoRow, TooMany, Unread
from meetrows.sets import is_name, rising
from things import NO_NAMES


class IsName(unittest.TestCase):
    def test_one_small_letter(self):
        for letter in "abcdefghijklmnopqrstuvwxyz":
            with self.subTest(letter):
                self.assertIs(is_name(letter), True)

    def test_each_length_from_one_to_eight(self):
        for many in range(1, 9):
            with self.subTest(many):
                self.assertIs(is_name("zyxwvuts"[:many]), True)
                self.assertIs(is_name("a" * many), True)

    def test_what_is_no_name(self):
        for what, thing in NO_NAMES.items():
            with self.subTest(what):
                self.assertIs(is_name(thing), False)

    def test_each_other_character_at_each_place(self):
        others = [chr(code) for code in range(0x250) if chr(code) not in string.ascii_lowercase]
        for other in others:
            with self.subTest(ord(other)):
                for text in (other, other + "ab", "a" + other + "b", "ab" + other):
                    self.assertIs(is_name(text), False)


class Rising(unittest.TestCase):
    def test_any_order_gives_the_same_set(self):
        for names in (["a", "b", "c"], ["c", "b", "a"], ["b", "c", "a"]):
            with self.subTest(names):
                self.assertEqual(rising(names), ["a", "b", "c"])

    def test_as_texts_are_ordered(self):
        names = ["b", "ba", "z", "ab", "a", "abc", "aa", "abcdefgh"]
        self.assertEqual(rising(names), ["a", "aa", "ab", "abc", "abcdefgh", "b", "ba", "z"])

    def test_what_stands_twice_is_told_once(self):
        self.assertEqual(rising(["b", "a", "b"]), ["a", "b"])
        self.assertEqual(rising(["a", "a", "a"]), ["a"])

    def test_no_names(self):
        self.assertEqual(rising([]), [])

    def test_more_names_than_a_book_takes(self):
        letters = list(string.ascii_lowercase)
        self.assertEqual(rising(letters[::-1]), letters)

    def test_a_list_is_told(self):
        self.assertIs(type(rising(["b", "a"])), list)
        self.assertIs(type(rising([])), list)

    def test_bad_name_at_each_place(self):
        for what, thing in NO_NAMES.items():
            for names in ([thing], [thing, "b", "a"], ["b", thing, "a"], ["b", "a", thing]):
                with self.subTest(what, at=len(names)):
                    with self.assertRaises(BadName):
                        rising(names)

    def test_bad_name_where_such_a_thing_stands_twice_or_beside_others(self):
        for names in (["A", "A"], ["a", "a", 7, 7], [[], {}], [None, "", True]):
            with self.subTest(names):
                with self.assertRaises(BadName):
                    rising(names)

    def test_the_refusal_is_of_its_own_kind_alone(self):
        with self.assertRaises(ValueError) as held:
            rising(["a", "B"])
        self.assertIs(type(held.exception), BadName)
        self.assertIsInstance(held.exception, MeetError)
        self.assertNotIsInstance(held.exception, (BadRow, NoRow, TooMany, NoMeet, Unread))

    def test_the_list_handed_in_stays_as_it_was(self):
        names = ["c", "a", "c", "b"]
        rising(names)
        self.assertEqual(names, ["c", "a", "c", "b"])

    def test_the_list_stays_as_it_was_where_it_is_refused(self):
        names = ["c", "a", "c", "", "b"]
        with self.assertRaises(BadName):
            rising(names)
        self.assertEqual(names, ["c", "a", "c", "", "b"])

    def test_what_is_told_is_the_askers_own(self):
        for names in ([], ["a"], ["a", "b"], ["b", "a"]):
            with self.subTest(names):
                before = list(names)
                told = rising(names)
                again = rising(names)
                told.append("z")
                self.assertEqual(names, before)
                self.assertEqual(again, sorted(before))
                self.assertEqual(rising(names), sorted(before))

    def test_what_was_handed_in_may_be_changed_behind_that(self):
        names = ["a", "b"]
        told = rising(names)
        names.clear()
        self.assertEqual(told, ["a", "b"])


if __name__ == "__main__":
    unittest.main()
