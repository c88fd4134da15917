"""[1.2]: what a vault refuses, in which order, and that nothing changes by it."""

import itertools
import unittest

from strata.errors import BadCommit, BadTree, NoObject, StrataError
from strata.vaults import blob, commit, commit_of, entries_of, text_of, tree
from tests.helper import ABSENT, all_told, small_vault

# Numbers of the small vault.
BLOB, TREE, COMMIT, LATER, LAST = 0, 1, 4, 5, 6


class Refusing(unittest.TestCase):
    def setUp(self):
        self.vault = small_vault()
        self.told = all_told(self.vault)

    def refused(self, error, function, *arguments):
        """The very error comes, and nothing in the vault has changed behind it."""
        with self.assertRaises(StrataError) as caught:
            function(*arguments)
        self.assertIs(caught.exception.__class__, error)
        self.assertEqual(self.vault.size(), 7)
        self.assertEqual(all_told(self.vault), self.told)

    def tree_refused(self, error, entries):
        before = list(entries)
        self.refused(error, tree, self.vault, entries)
        self.assertEqual(entries, before)

    def commit_refused(self, error, top, parents, time=0, message="m"):
        before = list(parents)
        self.refused(error, commit, self.vault, top, parents, time, message)
        self.assertEqual(parents, before)


class TestNoObject(Refusing):
    def test_numbers_without_an_object(self):
        for number in ABSENT:
            self.refused(NoObject, self.vault.kind, number)
            self.refused(NoObject, text_of, self.vault, number)
            self.refused(NoObject, entries_of, self.vault, number)
            self.refused(NoObject, commit_of, self.vault, number)
            self.tree_refused(NoObject, [("a", number)])
            self.commit_refused(NoObject, number, [])
            self.commit_refused(NoObject, TREE, [number])
            self.commit_refused(NoObject, TREE, [COMMIT, number])
            self.commit_refused(NoObject, TREE, [number, COMMIT])

    def test_another_kind_than_is_wanted(self):
        for number in (TREE, COMMIT, LAST):
            self.refused(NoObject, text_of, self.vault, number)
        for number in (BLOB, COMMIT, LAST):
            self.refused(NoObject, entries_of, self.vault, number)
            self.commit_refused(NoObject, number, [])
        for number in (BLOB, TREE):
            self.refused(NoObject, commit_of, self.vault, number)
            self.commit_refused(NoObject, TREE, [number])
            self.commit_refused(NoObject, TREE, [COMMIT, number])
            self.commit_refused(NoObject, TREE, [number, COMMIT])

    def test_an_object_that_comes_later_is_there_then(self):
        self.refused(NoObject, text_of, self.vault, 7)
        self.tree_refused(NoObject, [("a", 7)])
        self.assertEqual(blob(self.vault, "seven"), 7)
        self.assertEqual(text_of(self.vault, 7), "seven")
        self.assertEqual(tree(self.vault, [("a", 7)]), 8)


class TestTrees(Refusing):
    def test_a_name_that_is_none(self):
        for name in ("", ".", "..", "a" * 13, "a b", "a/b", "a\n", "a=b", "~", "|", ",", "a,b"):
            self.tree_refused(BadTree, [(name, BLOB)])

    def test_a_wrong_name_at_each_place(self):
        for place in range(3):
            entries = [("a", BLOB), ("b", BLOB), ("c", BLOB)]
            entries[place] = (entries[place][0] + "/", BLOB)
            self.tree_refused(BadTree, entries)

    def test_names_that_do_not_rise(self):
        names = [
            ["a", "a"], ["b", "a"], ["a", "A"], ["a", "0"], ["aa", "a"], ["_", "Z"], ["a", "_"], ["0", "."],
            [".a", "-a"], ["9", "10"], ["a", "b", "b"], ["a", "c", "b"], ["b", "c", "a"],
        ]
        for row in names:
            self.tree_refused(BadTree, [(name, BLOB) for name in row])

    def test_two_alike_with_other_objects(self):
        self.tree_refused(BadTree, [("a", BLOB), ("a", TREE)])

    def test_an_entry_that_names_a_commit(self):
        self.tree_refused(BadTree, [("a", COMMIT)])
        self.tree_refused(BadTree, [("a", BLOB), ("b", TREE), ("c", LAST)])

    def test_names_ahead_of_objects(self):
        for number in (-1, 7, 10 ** 15):
            self.tree_refused(BadTree, [("", number)])
            self.tree_refused(BadTree, [("a", number), ("..", BLOB)])
            self.tree_refused(BadTree, [("a", number), ("a", BLOB)])
            self.tree_refused(BadTree, [("a", number), ("c", BLOB), ("b", BLOB)])
            self.tree_refused(BadTree, [("b", number), ("a", number)])

    def test_entry_by_entry(self):
        self.tree_refused(NoObject, [("a", 7), ("b", COMMIT)])
        self.tree_refused(BadTree, [("a", COMMIT), ("b", 7)])

    def test_the_first_wrong_entry_counts(self):
        errors = {BLOB: None, TREE: None, COMMIT: BadTree, 7: NoObject, -1: NoObject}
        for numbers in itertools.product(errors, repeat=3):
            faults = [errors[number] for number in numbers if errors[number] is not None]
            if faults:
                with self.subTest(numbers=numbers):
                    self.tree_refused(faults[0], list(zip(["a", "b", "c"], numbers)))


class TestCommits(Refusing):
    def test_parents_alike(self):
        self.commit_refused(BadCommit, TREE, [COMMIT, COMMIT])

    def test_more_than_two_parents(self):
        self.commit_refused(BadCommit, TREE, [COMMIT, LATER, LAST])
        self.commit_refused(BadCommit, TREE, [COMMIT, LATER, COMMIT])
        self.commit_refused(BadCommit, TREE, [COMMIT, COMMIT, COMMIT])

    def test_a_time_below_0(self):
        for time in (-1, -2, -10 ** 14, -10 ** 20):
            self.commit_refused(BadCommit, TREE, [], time)

    def test_a_message_with_line_ends(self):
        for message in ("\n", "a\n", "\na", "a\nb", "a\n\n"):
            self.commit_refused(BadCommit, TREE, [], 0, message)

    def test_several_faults_that_are_bad_commit(self):
        self.commit_refused(BadCommit, TREE, [COMMIT, COMMIT], -1, "a\n")
        self.commit_refused(BadCommit, TREE, [COMMIT, LATER, LAST], -1, "a\n")

    def test_no_object_ahead_of_bad_commit(self):
        for wrong in (7, -1, 10 ** 15, BLOB):
            self.commit_refused(NoObject, wrong, [COMMIT, COMMIT])
            self.commit_refused(NoObject, wrong, [COMMIT, LATER, LAST])
            self.commit_refused(NoObject, wrong, [], -1)
            self.commit_refused(NoObject, wrong, [], 0, "\n")
            self.commit_refused(NoObject, TREE, [wrong, wrong])
            self.commit_refused(NoObject, TREE, [wrong], -1)
            self.commit_refused(NoObject, TREE, [wrong], 0, "\n")
            self.commit_refused(NoObject, TREE, [COMMIT, COMMIT, wrong], -1, "\n")

    def test_no_object_of_a_third_parent(self):
        for place in range(4):
            parents = [COMMIT, LATER, LAST]
            parents.insert(place, 7)
            self.commit_refused(NoObject, TREE, parents)

    def test_all_faults_at_once(self):
        for top, parents, time, message in itertools.product(
            (TREE, BLOB, 7), ([], [COMMIT, COMMIT], [COMMIT, TREE], [-1, COMMIT]), (0, -1), ("m", "\n")
        ):
            none_such = top != TREE or parents in ([COMMIT, TREE], [-1, COMMIT])
            bad = parents == [COMMIT, COMMIT] or time < 0 or message == "\n"
            with self.subTest(top=top, parents=parents, time=time, message=message):
                if none_such:
                    self.commit_refused(NoObject, top, parents, time, message)
                elif bad:
                    self.commit_refused(BadCommit, top, parents, time, message)

    def test_a_vault_goes_on_behind_a_refusal(self):
        self.commit_refused(BadCommit, TREE, [], -1)
        self.tree_refused(BadTree, [("a", COMMIT)])
        self.assertEqual(blob(self.vault, "new"), 7)
        self.assertEqual(tree(self.vault, [("a", 7)]), 8)
        self.assertEqual(commit(self.vault, 8, [LAST], 0, "m"), 9)
