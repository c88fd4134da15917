"""[1.3]: what objects reach, ancestors, the best common one of two commits, history."""

import itertools
import unittest

from strata.errors import NoObject, StrataError
from strata.reaching import ancestors, best_common, history, reached
from strata.vaults import Vault, blob, commit, tree
from tests.helper import ABSENT, all_told, small_vault


def deep_vault():
    """From 0 on: blobs 0 and 1, trees 2 to 5 (some in one another), commits 6 to 8, a blob, tree and commit apart."""
    vault = Vault()
    blob(vault, "x")
    blob(vault, "y")
    tree(vault, [("a", 0)])
    tree(vault, [("b", 1), ("c", 2)])
    tree(vault, [])
    tree(vault, [("d", 3), ("e", 4), ("f", 0)])
    commit(vault, 2, [], 1, "first")
    commit(vault, 4, [6], 2, "second")
    commit(vault, 5, [7], 3, "third")
    blob(vault, "z")
    tree(vault, [("z", 9)])
    commit(vault, 10, [], 4, "apart")
    return vault


def grown(rows):
    """A vault with a tree without entries as 0, and for each row, parents and a time, a commit, from 1 on."""
    vault = Vault()
    tree(vault, [])
    for many, (parents, time) in enumerate(rows):
        commit(vault, 0, parents, time, str(many))
    return vault


def by_the_words(rows):
    """The ancestors of each commit of grown(rows), straight from what the parents have."""
    found = {}
    for many, (parents, time) in enumerate(rows):
        found[many + 1] = {many + 1}.union(*[found[parent] for parent in parents])
    return found


def best_by_the_words(rows, one, other):
    above = by_the_words(rows)
    common = above[one] & above[other]
    best = [c for c in common if not any(c in above[d] for d in common if d != c)]
    times = {many + 1: time for many, (parents, time) in enumerate(rows)}
    return min(best, key=lambda c: (-times[c], c)) if best else None


def small_histories(commits, times):
    """All rows of so many commits, each with up to two earlier parents and one of the times."""
    choices = []
    for number in range(1, commits + 1):
        earlier = list(range(1, number))
        parents = [[]] + [[one] for one in earlier] + [list(two) for two in itertools.combinations(earlier, 2)]
        choices.append([(row, time) for row in parents for time in times])
    return itertools.product(*choices)


class TestReached(unittest.TestCase):
    def setUp(self):
        self.vault = deep_vault()

    def test_of_none(self):
        self.assertEqual(reached(self.vault, []), [])
        self.assertEqual(reached(Vault(), []), [])

    def test_of_each_one(self):
        told = {
            0: [0], 1: [1], 2: [0, 2], 3: [0, 1, 2, 3], 4: [4], 5: [0, 1, 2, 3, 4, 5], 6: [0, 2, 6],
            7: [0, 2, 4, 6, 7], 8: [0, 1, 2, 3, 4, 5, 6, 7, 8], 9: [9], 10: [9, 10], 11: [9, 10, 11],
        }
        for number in range(self.vault.size()):
            self.assertEqual(reached(self.vault, [number]), told[number], number)

    def test_of_several(self):
        self.assertEqual(reached(self.vault, [0, 1]), [0, 1])
        self.assertEqual(reached(self.vault, [9, 4, 1]), [1, 4, 9])
        self.assertEqual(reached(self.vault, [11, 6]), [0, 2, 6, 9, 10, 11])
        self.assertEqual(reached(self.vault, [10, 3]), [0, 1, 2, 3, 9, 10])

    def test_of_some_twice(self):
        self.assertEqual(reached(self.vault, [0, 0]), [0])
        self.assertEqual(reached(self.vault, [6, 9, 6, 9, 9]), [0, 2, 6, 9])

    def test_of_some_that_reach_one_another(self):
        self.assertEqual(reached(self.vault, [0, 2]), [0, 2])
        self.assertEqual(reached(self.vault, [2, 0]), [0, 2])
        self.assertEqual(reached(self.vault, [6, 7]), [0, 2, 4, 6, 7])
        self.assertEqual(reached(self.vault, [7, 6, 2]), [0, 2, 4, 6, 7])

    def test_two_parents(self):
        vault = small_vault()
        self.assertEqual(reached(vault, [6]), [0, 1, 4, 5, 6])
        self.assertEqual(reached(vault, [5]), [0, 1, 4, 5])

    def test_all_that_several_reach_is_what_each_reaches(self):
        alone = {number: set(reached(self.vault, [number])) for number in range(12)}
        for numbers in itertools.product(range(12), repeat=3):
            told = reached(self.vault, list(numbers))
            self.assertEqual(told, sorted(alone[numbers[0]] | alone[numbers[1]] | alone[numbers[2]]))

    def test_a_tree_named_twice_is_told_once(self):
        vault = Vault()
        blob(vault, "x")
        tree(vault, [("a", 0), ("b", 0)])
        tree(vault, [("a", 1), ("b", 1), ("c", 0)])
        self.assertEqual(reached(vault, [2]), [0, 1, 2])

    def test_trees_that_double_at_each_step(self):
        vault = Vault()
        top = blob(vault, "x")
        for step in range(300):
            top = tree(vault, [("a", top), ("b", top)])
        self.assertEqual(reached(vault, [top]), list(range(301)))

    def test_later_objects_are_not_reached(self):
        told = reached(self.vault, [8])
        commit(self.vault, 5, [8, 11], 9, "later")
        tree(self.vault, [("a", 0), ("t", 5)])
        self.assertEqual(reached(self.vault, [8]), told)

    def test_numbers_without_an_object(self):
        vault = small_vault()
        told = all_told(vault)
        for number in ABSENT:
            for numbers in ([number], [0, number], [number, 6], [6, 6, number], [number, number]):
                before = list(numbers)
                with self.assertRaises(StrataError) as caught:
                    reached(vault, numbers)
                self.assertIs(caught.exception.__class__, NoObject)
                self.assertEqual(numbers, before)
        self.assertEqual(all_told(vault), told)

    def test_nothing_is_changed_or_kept(self):
        told = all_told(self.vault)
        numbers = [8, 0, 8, 11]
        first = reached(self.vault, numbers)
        self.assertEqual(numbers, [8, 0, 8, 11])
        self.assertIsInstance(first, list)
        first.clear()
        self.assertEqual(reached(self.vault, numbers), list(range(12)))
        self.assertEqual(all_told(self.vault), told)
        alone = [0]
        self.assertIsNot(reached(self.vault, alone), alone)


class TestAncestors(unittest.TestCase):
    def test_itself_and_those_of_its_parents(self):
        vault = deep_vault()
        self.assertEqual(ancestors(vault, 6), [6])
        self.assertEqual(ancestors(vault, 7), [6, 7])
        self.assertEqual(ancestors(vault, 8), [6, 7, 8])
        self.assertEqual(ancestors(vault, 11), [11])

    def test_two_parents(self):
        vault = small_vault()
        self.assertEqual(ancestors(vault, 6), [4, 5, 6])
        self.assertEqual(ancestors(vault, 5), [4, 5])

    def test_each_once_in_crossed_histories(self):
        vault = grown([([], 9), ([], 8), ([1, 2], 7), ([2, 1], 6), ([4, 3], 5), ([], 4), ([5, 6], 3)])
        self.assertEqual(ancestors(vault, 3), [1, 2, 3])
        self.assertEqual(ancestors(vault, 5), [1, 2, 3, 4, 5])
        self.assertEqual(ancestors(vault, 7), [1, 2, 3, 4, 5, 6, 7])

    def test_all_small_histories(self):
        for rows in small_histories(4, [0]):
            vault = grown(rows)
            above = by_the_words(rows)
            for number in above:
                self.assertEqual(ancestors(vault, number), sorted(above[number]), rows)

    def test_a_long_history(self):
        vault = grown([([], 0)] + [([number], number) for number in range(1, 3000)])
        self.assertEqual(ancestors(vault, 3000), list(range(1, 3001)))
        self.assertEqual(history(vault, 3000), list(range(3000, 0, -1)))
        self.assertEqual(best_common(vault, 3000, 1700), 1700)
        self.assertEqual(reached(vault, [3000]), list(range(3001)))

    def test_many_ways_to_the_same(self):
        rows = [([], 0), ([1], 0), ([1, 2], 1)]
        for number in range(4, 200):
            rows.append(([number - 1, number - 2], number))
        vault = grown(rows)
        self.assertEqual(ancestors(vault, 199), list(range(1, 200)))
        self.assertEqual(best_common(vault, 199, 198), 198)


class TestBestCommon(unittest.TestCase):
    def both_ways(self, vault, one, other, told):
        self.assertEqual(best_common(vault, one, other), told)
        self.assertEqual(best_common(vault, other, one), told)

    def test_the_same_twice(self):
        vault = deep_vault()
        for number in (6, 7, 8, 11):
            self.assertEqual(best_common(vault, number, number), number)

    def test_one_an_ancestor_of_the_other(self):
        vault = deep_vault()
        self.both_ways(vault, 6, 7, 6)
        self.both_ways(vault, 6, 8, 6)
        self.both_ways(vault, 7, 8, 7)

    def test_none_without_any(self):
        vault = deep_vault()
        for number in (6, 7, 8):
            self.assertIsNone(best_common(vault, number, 11))
            self.assertIsNone(best_common(vault, 11, number))

    def test_a_fork(self):
        vault = grown([([], 0), ([1], 1), ([2], 2), ([2], 3), ([3], 4), ([4], 5)])
        self.both_ways(vault, 5, 6, 2)
        self.both_ways(vault, 3, 6, 2)
        self.both_ways(vault, 3, 4, 2)

    def test_a_child_ahead_of_its_ancestor_with_a_greater_time(self):
        vault = grown([([], 90), ([1], 50), ([2], 10), ([2], 20), ([3], 1), ([4], 2)])
        self.both_ways(vault, 5, 6, 2)
        self.both_ways(vault, 2, 6, 2)
        self.both_ways(vault, 1, 6, 1)

    def test_crossed_by_the_greatest_time(self):
        for first, second, told in ((5, 6, 2), (6, 5, 1), (0, 1, 2), (1, 0, 1)):
            vault = grown([([], first), ([], second), ([1, 2], 7), ([2, 1], 8)])
            self.both_ways(vault, 3, 4, told)

    def test_crossed_with_like_times_by_the_lowest_number(self):
        vault = grown([([], 5), ([], 5), ([], 5), ([1, 2], 7), ([2, 1], 7)])
        self.both_ways(vault, 4, 5, 1)
        vault = grown([([], 4), ([], 5), ([], 5), ([3, 2], 7), ([2, 3], 7), ([4, 1], 8), ([1, 5], 8)])
        self.both_ways(vault, 6, 7, 2)

    def test_crossed_above_an_ancestor_with_a_greater_time(self):
        vault = grown([([], 99), ([1], 5), ([1], 6), ([2, 3], 7), ([3, 2], 8)])
        self.both_ways(vault, 4, 5, 3)
        vault = grown([([], 99), ([1], 6), ([1], 5), ([2, 3], 7), ([3, 2], 8)])
        self.both_ways(vault, 4, 5, 2)

    def test_an_ancestor_by_many_steps_does_not_count(self):
        # 1 and 5 are both parents of the two, but 1 is an ancestor of 5 by way of 2, 3 and 4.
        vault = grown([([], 99), ([1], 4), ([2], 3), ([3], 2), ([4], 1), ([1, 5], 7), ([5, 1], 8)])
        self.both_ways(vault, 6, 7, 5)

    def test_three_at_once(self):
        rows = [([], 3), ([], 9), ([], 9), ([1, 2], 1), ([4, 3], 1), ([3, 2], 1), ([6, 1], 1)]
        self.both_ways(grown(rows), 5, 7, 2)

    def test_all_small_histories(self):
        for rows in small_histories(4, [0, 1]):
            vault = grown(rows)
            for one, other in itertools.product(range(1, 5), repeat=2):
                self.assertEqual(best_common(vault, one, other), best_by_the_words(rows, one, other), rows)

    def test_all_small_histories_of_five_with_falling_times(self):
        for rows in small_histories(5, [0]):
            falling = [(parents, (3, 3, 2, 2, 1)[many]) for many, (parents, time) in enumerate(rows)]
            vault = grown(falling)
            for one, other in itertools.combinations(range(1, 6), 2):
                self.both_ways(vault, one, other, best_by_the_words(falling, one, other))

    def test_0_is_a_time_and_no_lack(self):
        vault = grown([([], 0), ([1], 0), ([1], 0)])
        self.both_ways(vault, 2, 3, 1)


class TestHistory(unittest.TestCase):
    def test_the_greatest_time_first(self):
        vault = deep_vault()
        self.assertEqual(history(vault, 8), [8, 7, 6])
        self.assertEqual(history(vault, 6), [6])
        self.assertEqual(history(vault, 11), [11])

    def test_by_time_also_where_an_ancestor_has_a_greater_one(self):
        vault = grown([([], 90), ([1], 10), ([2], 50), ([1], 70), ([3, 4], 0)])
        self.assertEqual(history(vault, 5), [1, 4, 3, 2, 5])

    def test_like_times_the_greater_number_first(self):
        vault = grown([([], 5), ([1], 5), ([1], 5), ([2, 3], 5)])
        self.assertEqual(history(vault, 4), [4, 3, 2, 1])
        vault = grown([([], 5), ([], 9), ([1, 2], 5), ([3], 9), ([4], 5)])
        self.assertEqual(history(vault, 5), [4, 2, 5, 3, 1])

    def test_each_ancestor_once(self):
        vault = grown([([], 0), ([1], 1), ([1], 2), ([2, 3], 3), ([3, 2], 4), ([4, 5], 5)])
        self.assertEqual(history(vault, 6), [6, 5, 4, 3, 2, 1])

    def test_times_are_no_texts(self):
        vault = grown([([], 9), ([1], 10), ([2], 100), ([3], 10 ** 15 - 1)])
        self.assertEqual(history(vault, 4), [4, 3, 2, 1])


class TestRefusals(unittest.TestCase):
    def setUp(self):
        self.vault = small_vault()
        self.told = all_told(self.vault)

    def refused(self, function, *arguments):
        with self.assertRaises(StrataError) as caught:
            function(self.vault, *arguments)
        self.assertIs(caught.exception.__class__, NoObject)
        self.assertEqual(all_told(self.vault), self.told)

    def test_what_is_no_commit(self):
        for number in ABSENT + (0, 1, 2, 3):
            self.refused(ancestors, number)
            self.refused(history, number)
            self.refused(best_common, number, number)
            for right in (4, 5, 6):
                self.refused(best_common, number, right)
                self.refused(best_common, right, number)

    def test_an_empty_vault(self):
        self.vault = Vault()
        self.told = []
        self.refused(ancestors, 0)
        self.refused(history, 0)
        self.refused(best_common, 0, 0)
        self.refused(reached, [0])


class TestNothingIsShared(unittest.TestCase):
    def test_asking_changes_nothing(self):
        vault = deep_vault()
        told = all_told(vault)
        for again in range(2):
            ancestors(vault, 8).clear()
            history(vault, 8).reverse()
            best_common(vault, 7, 8)
            self.assertEqual(ancestors(vault, 8), [6, 7, 8])
            self.assertEqual(history(vault, 8), [8, 7, 6])
        self.assertEqual(all_told(vault), told)
        self.assertEqual(blob(vault, "new"), 12)

    def test_told_are_new_lists(self):
        vault = deep_vault()
        for function in (ancestors, history):
            self.assertIsInstance(function(vault, 8), list)
            self.assertIsNot(function(vault, 8), function(vault, 8))
