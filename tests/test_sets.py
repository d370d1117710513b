import copy
import unittest
from itertools import combinations, permutations, product

from meetrows.sets import least_of, meets, ranked, within
from things import spoil, subsets


def stands_ahead(one, other):
    """Point 3 of the document, word by word."""
    if len(one) != len(other):
        return len(one) < len(other)
    for mine, theirs in zip(one, other):
        if mine != theirs:
            return mine < theirs
    return False


# Names that are beginnings of one another, and such as differ in one letter only.
LIKE_NAMES = ["a", "ab", "abc", "abd", "b", "bb"]


class Within(unittest.TestCase):
    def test_all_some_or_none_shared(self):
        self.assertIs(within(["a", "b"], ["a", "b", "c"]), True)
        self.assertIs(within(["a", "c"], ["a", "b", "c"]), True)
        self.assertIs(within(["a", "b", "c"], ["a", "b"]), False)
        self.assertIs(within(["a", "d"], ["a", "b", "c"]), False)
        self.assertIs(within(["d", "e"], ["a", "b", "c"]), False)

    def test_a_set_with_itself(self):
        self.assertIs(within(["a"], ["a"]), True)
        self.assertIs(within(["a", "b"], ["a", "b"]), True)
        same = ["a", "b"]
        self.assertIs(within(same, same), True)

    def test_the_empty_set(self):
        self.assertIs(within([], []), True)
        self.assertIs(within([], ["a"]), True)
        self.assertIs(within(["a"], []), False)

    def test_beginnings_and_names_unlike_in_one_letter(self):
        self.assertIs(within(["a"], ["ab"]), False)
        self.assertIs(within(["ab"], ["a"]), False)
        self.assertIs(within(["ab"], ["a", "b"]), False)
        self.assertIs(within(["a", "b"], ["ab"]), False)
        self.assertIs(within(["abc"], ["abd"]), False)
        self.assertIs(within(["abcdefgh"], ["abcdefgz"]), False)
        self.assertIs(within(["abcdefgh"], ["zbcdefgh"]), False)

    def test_all_pairs_of_small_sets(self):
        for one, other in product(subsets(LIKE_NAMES), repeat=2):
            self.assertIs(within(one, other), set(one) <= set(other), (one, other))

    def test_the_sets_handed_in_stay_as_they_were(self):
        one, other = ["a", "b"], ["a", "c"]
        within(one, other)
        self.assertEqual((one, other), (["a", "b"], ["a", "c"]))


class Meets(unittest.TestCase):
    def test_all_some_or_none_shared(self):
        self.assertIs(meets(["a", "b"], ["a", "b", "c"]), True)
        self.assertIs(meets(["a", "d"], ["b", "c", "d"]), True)
        self.assertIs(meets(["b", "d"], ["a", "b"]), True)
        self.assertIs(meets(["a", "b"], ["c", "d"]), False)

    def test_a_set_with_itself(self):
        self.assertIs(meets(["a"], ["a"]), True)
        self.assertIs(meets(["a", "b"], ["a", "b"]), True)

    def test_the_empty_set(self):
        self.assertIs(meets([], []), False)
        self.assertIs(meets([], ["a"]), False)
        self.assertIs(meets(["a"], []), False)

    def test_beginnings_and_names_unlike_in_one_letter(self):
        self.assertIs(meets(["a"], ["ab"]), False)
        self.assertIs(meets(["ab"], ["a", "b"]), False)
        self.assertIs(meets(["a", "b"], ["ab"]), False)
        self.assertIs(meets(["abc"], ["abd"]), False)
        self.assertIs(meets(["abcdefgh"], ["abcdefgz"]), False)

    def test_all_pairs_of_small_sets(self):
        for one, other in product(subsets(LIKE_NAMES), repeat=2):
            self.assertIs(meets(one, other), len(set(one) & set(other)) > 0, (one, other))

    def test_the_sets_handed_in_stay_as_they_were(self):
        one, other = ["a", "b"], ["a", "c"]
        meets(one, other)
        self.assertEqual((one, other), (["a", "b"], ["a", "c"]))


class Ranked(unittest.TestCase):
    def test_by_how_many_names(self):
        self.assertEqual(
            ranked([["a", "b", "c"], ["z"], [], ["x", "y"]]),
            [[], ["z"], ["x", "y"], ["a", "b", "c"]],
        )

    def test_of_as_many_by_the_first_name_that_differs(self):
        self.assertEqual(
            ranked([["b", "c"], ["a", "d"], ["a", "c"], ["a", "b"]]),
            [["a", "b"], ["a", "c"], ["a", "d"], ["b", "c"]],
        )

    def test_whole_names_are_compared_not_the_texts_joined(self):
        self.assertEqual(ranked([["ab", "b"], ["a", "c"]]), [["a", "c"], ["ab", "b"]])
        self.assertEqual(ranked([["abc"], ["b"], ["ab"], ["a"]]), [["a"], ["ab"], ["abc"], ["b"]])

    def test_how_many_names_not_how_many_letters(self):
        self.assertEqual(ranked([["a", "b"], ["abcdefgh"]]), [["abcdefgh"], ["a", "b"]])

    def test_like_ones_as_often_as_they_stand(self):
        same = ["a", "b"]
        self.assertEqual(
            ranked([same, ["c"], ["a", "b"], [], same, []]),
            [[], [], ["c"], ["a", "b"], ["a", "b"], ["a", "b"]],
        )

    def test_no_sets_and_one_set(self):
        self.assertEqual(ranked([]), [])
        self.assertEqual(ranked([[]]), [[]])
        self.assertEqual(ranked([["b", "c"]]), [["b", "c"]])

    def test_none_is_left_out_though_one_lies_within_another(self):
        self.assertEqual(ranked([["a", "b"], ["a"]]), [["a"], ["a", "b"]])

    def test_any_order_gives_the_same(self):
        wanted = [[], ["b"], ["bb"], ["a", "z"], ["ab", "b"]]
        for sets in permutations(wanted):
            self.assertEqual(ranked(list(sets)), wanted)

    def test_each_set_stands_ahead_of_the_next(self):
        sets = subsets(LIKE_NAMES)
        told = ranked(sets[::-1])
        self.assertEqual(len(told), len(sets))
        for one, other in zip(told, told[1:]):
            self.assertTrue(stands_ahead(one, other), (one, other))

    def test_lists_are_told(self):
        told = ranked([["b"], ["a"]])
        self.assertEqual([type(told), type(told[0])], [list, list])

    def test_what_is_handed_in_stays_as_it_was(self):
        sets = [["b", "c"], ["a"], [], ["a"]]
        before = copy.deepcopy(sets)
        ranked(sets)
        self.assertEqual(sets, before)

    def test_what_is_told_is_the_askers_own(self):
        same = ["a"]
        sets = [["b", "c"], same, [], same]
        before = copy.deepcopy(sets)
        spoil(ranked(sets))
        self.assertEqual(sets, before)
        told = ranked(sets)
        told[1].append("z")
        self.assertEqual(told, [[], ["a", "z"], ["a"], ["b", "c"]])

    def test_what_was_handed_in_may_be_changed_behind_that(self):
        sets = [["b"], ["a"]]
        told = ranked(sets)
        spoil(sets)
        self.assertEqual(told, [["a"], ["b"]])


class LeastOf(unittest.TestCase):
    def test_only_those_within_which_no_other_one_lies(self):
        self.assertEqual(
            least_of([["a", "b", "c"], ["b", "c"], ["a", "d"], ["d"], ["a", "c"]]),
            [["d"], ["a", "c"], ["b", "c"]],
        )

    def test_all_where_none_lies_within_another(self):
        self.assertEqual(least_of([["b", "c"], ["a", "c"], ["a", "b"]]), [["a", "b"], ["a", "c"], ["b", "c"]])

    def test_chains_of_sets_within_one_another(self):
        chain = [["a"], ["a", "b"], ["a", "b", "c"], ["a", "b", "c", "d"]]
        for sets in permutations(chain):
            self.assertEqual(least_of(list(sets)), [["a"]])

    def test_the_empty_set_lies_within_all(self):
        self.assertEqual(least_of([["a"], [], ["b", "c"]]), [[]])
        self.assertEqual(least_of([[]]), [[]])
        self.assertEqual(least_of([[], []]), [[]])

    def test_no_sets(self):
        self.assertEqual(least_of([]), [])

    def test_like_ones_are_told_once(self):
        same = ["b", "c"]
        self.assertEqual(least_of([same, ["a"], ["b", "c"], same, ["a"]]), [["a"], ["b", "c"]])

    def test_like_ones_in_another_order_are_told_once_and_rising(self):
        self.assertEqual(least_of([["c", "b"], ["b", "c"], ["a", "c"]]), [["a", "c"], ["b", "c"]])
        self.assertEqual(least_of([["c", "b", "c"], ["b", "d", "c"]]), [["b", "c"]])

    def test_ranked(self):
        self.assertEqual(
            least_of([["x", "y", "z"], ["c", "d"], ["ab", "b"], ["w"], ["a", "c"]]),
            [["w"], ["a", "c"], ["ab", "b"], ["c", "d"], ["x", "y", "z"]],
        )

    def test_beginnings_are_other_names(self):
        self.assertEqual(least_of([["ab"], ["a", "b"], ["abc"]]), [["ab"], ["abc"], ["a", "b"]])

    def test_all_lists_of_different_sets_of_three_names(self):
        every = subsets(["a", "ab", "b"])
        for chosen in product([False, True], repeat=len(every)):
            sets = [one for one, kept in zip(every, chosen) if kept]
            wanted = [one for one in sets if not any(set(other) < set(one) for other in sets)]
            self.assertEqual(least_of(sets), wanted, sets)
            self.assertEqual(least_of(sets[::-1] + sets), wanted, sets)

    def test_as_many_least_ones_as_twelve_names_can_have(self):
        names = "abcdefghijkl"
        sixes = [list(one) for one in combinations(names, 6)]
        sevens = [list(one) for one in combinations(names, 7)]
        # assertEqual would work for many minutes on what differs in lists as long as these.
        self.assertTrue(least_of(sevens + sixes) == sixes)

    def test_lists_are_told(self):
        told = least_of([["b"], ["a"]])
        self.assertEqual([type(told), type(told[0])], [list, list])

    def test_what_is_handed_in_stays_as_it_was(self):
        sets = [["c", "b"], ["a"], ["a"], ["a", "b"]]
        before = copy.deepcopy(sets)
        least_of(sets)
        self.assertEqual(sets, before)

    def test_what_is_told_is_the_askers_own(self):
        sets = [["b", "c"], ["a"], ["a"], ["a", "b"]]
        before = copy.deepcopy(sets)
        spoil(least_of(sets))
        self.assertEqual(sets, before)
        self.assertEqual(least_of(sets), [["a"], ["b", "c"]])

    def test_what_was_handed_in_may_be_changed_behind_that(self):
        sets = [["b"], ["a"]]
        told = least_of(sets)
        spoil(sets)
        self.assertEqual(told, [["a"], ["b"]])


class NothingIsRefused(unittest.TestCase):
    """rising alone is told to refuse what is no name."""

    def test_texts_that_are_no_names(self):
        self.assertIs(within(["A"], ["", "A"]), True)
        self.assertIs(meets(["A", "a b"], [""]), False)
        self.assertEqual(ranked([["a b", "b"], ["A"]]), [["A"], ["a b", "b"]])
        self.assertEqual(least_of([["A", ""], ["A"], ["abcdefghi"]]), [["A"], ["abcdefghi"]])


if __name__ == "__main__":
    unittest.main()
