"""[1.1] and [0.1] to [0.3]: what is put into a vault, and what is told of it."""

import unittest

from strata.vaults import Vault, blob, commit, commit_of, entries_of, text_of, tree
from tests.helper import all_told, small_vault


class TestNumbers(unittest.TestCase):
    def test_a_new_vault_is_empty(self):
        self.assertEqual(Vault().size(), 0)

    def test_numbers_from_0_on_as_they_come(self):
        vault = Vault()
        self.assertEqual(blob(vault, "x"), 0)
        self.assertEqual(vault.size(), 1)
        self.assertEqual(tree(vault, [("a", 0)]), 1)
        self.assertEqual(vault.size(), 2)
        self.assertEqual(commit(vault, 1, [], 0, "m"), 2)
        self.assertEqual(vault.size(), 3)
        self.assertEqual(blob(vault, "y"), 3)
        self.assertEqual(vault.size(), 4)
        self.assertEqual([vault.kind(number) for number in range(4)], ["blob", "tree", "commit", "blob"])

    def test_the_same_put_twice_is_one(self):
        vault = small_vault()
        told = all_told(vault)
        self.assertEqual(blob(vault, "one\n"), 0)
        self.assertEqual(tree(vault, [("a", 0)]), 1)
        self.assertEqual(blob(vault, ""), 2)
        self.assertEqual(blob(vault, "two"), 3)
        self.assertEqual(commit(vault, 1, [], 5, "first"), 4)
        self.assertEqual(commit(vault, 1, [4], 6, "second"), 5)
        self.assertEqual(commit(vault, 1, [4, 5], 7, "third"), 6)
        self.assertEqual(vault.size(), 7)
        self.assertEqual(all_told(vault), told)

    def test_what_comes_behind_one_put_twice_has_the_next_number(self):
        vault = small_vault()
        blob(vault, "two")
        tree(vault, [("a", 0)])
        self.assertEqual(blob(vault, "three"), 7)

    def test_what_differs_a_little_is_another(self):
        vault = small_vault()
        numbers = [
            blob(vault, "one"), blob(vault, "one\n\n"), blob(vault, "One\n"), blob(vault, " one\n"), blob(vault, "\n"),
            tree(vault, []), tree(vault, [("b", 0)]), tree(vault, [("a", 2)]), tree(vault, [("A", 0)]),
            tree(vault, [("a", 0), ("b", 0)]), tree(vault, [("a", 1)]),
        ]
        other = tree(vault, [])
        numbers += [
            commit(vault, 1, [], 6, "first"), commit(vault, 1, [], 5, "First"), commit(vault, 1, [], 5, ""),
            commit(vault, other, [], 5, "first"), commit(vault, 1, [4], 5, "first"),
            commit(vault, 1, [5, 4], 7, "third"), commit(vault, 1, [5], 7, "third"), commit(vault, 1, [4], 7, "third"),
        ]
        self.assertEqual(numbers, list(range(7, 7 + len(numbers))))
        self.assertEqual(vault.size(), 7 + len(numbers))

    def test_each_kind_is_a_world_of_its_own(self):
        vault = Vault()
        empty = blob(vault, "")
        bare = tree(vault, [])
        first = commit(vault, bare, [], 0, "")
        self.assertEqual([empty, bare, first], [0, 1, 2])
        self.assertEqual([vault.kind(empty), vault.kind(bare), vault.kind(first)], ["blob", "tree", "commit"])

    def test_two_vaults_beside_one_another(self):
        one = Vault()
        other = Vault()
        self.assertEqual(blob(one, "x"), 0)
        self.assertEqual(other.size(), 0)
        self.assertEqual(blob(other, "y"), 0)
        self.assertEqual(blob(other, "x"), 1)
        self.assertEqual(tree(other, [("n", 1)]), 2)
        self.assertEqual(all_told(one), [("blob", "x")])
        self.assertEqual(all_told(other), [("blob", "y"), ("blob", "x"), ("tree", [("n", 1)])])

    def test_a_number_stands_for_one_content_for_ever(self):
        vault = small_vault()
        told = all_told(vault)
        for many in range(200):
            number = blob(vault, f"text {many}\n")
            top = tree(vault, [("a", number)])
            commit(vault, top, [4], many, "more")
        self.assertEqual(vault.size(), 607)
        self.assertEqual(all_told(vault)[:7], told)
        self.assertEqual(text_of(vault, 7), "text 0\n")
        self.assertEqual(entries_of(vault, 605), [("a", 604)])
        self.assertEqual(commit_of(vault, 606), (605, [4], 199, "more"))


class TestTold(unittest.TestCase):
    def test_texts(self):
        vault = Vault()
        signs = "".join([chr(number) for number in range(32, 127) if number != 37])
        texts = ["", "\n", "\n\n", "a", "a\n", "a\nb", " a ", signs, "line\n" * 40, "line\n" * 60 + "end"]
        numbers = [blob(vault, text) for text in texts]
        self.assertEqual(numbers, list(range(len(texts))))
        self.assertEqual([text_of(vault, number) for number in numbers], texts)

    def test_entries(self):
        vault = Vault()
        blob(vault, "x")
        bare = tree(vault, [])
        top = tree(vault, [("a", 0), ("b", bare), ("c", 0)])
        self.assertEqual(entries_of(vault, bare), [])
        told = entries_of(vault, top)
        self.assertEqual(told, [("a", 0), ("b", 1), ("c", 0)])
        self.assertIsInstance(told, list)
        for entry in told:
            self.assertIsInstance(entry, tuple)

    def test_a_tree_of_trees(self):
        vault = Vault()
        top = tree(vault, [("leaf", blob(vault, "x"))])
        for depth in range(25):
            top = tree(vault, [("down", top)])
        self.assertEqual(vault.size(), 27)
        for depth in range(25):
            self.assertEqual([name for name, number in entries_of(vault, top)], ["down"])
            top = entries_of(vault, top)[0][1]
        self.assertEqual(entries_of(vault, top), [("leaf", 0)])

    def test_commits(self):
        vault = small_vault()
        self.assertEqual(commit_of(vault, 4), (1, [], 5, "first"))
        self.assertEqual(commit_of(vault, 5), (1, [4], 6, "second"))
        self.assertEqual(commit_of(vault, 6), (1, [4, 5], 7, "third"))
        for number in (4, 5, 6):
            self.assertIsInstance(commit_of(vault, number), tuple)
            self.assertIsInstance(commit_of(vault, number)[1], list)

    def test_parents_keep_their_order(self):
        vault = small_vault()
        self.assertEqual(commit_of(vault, commit(vault, 1, [6, 4], 9, "m")), (1, [6, 4], 9, "m"))

    def test_times_from_0_on_and_parents_later_than_a_commit(self):
        vault = small_vault()
        for time in (0, 1, 10 ** 15 - 1, 10 ** 15, 10 ** 18):
            number = commit(vault, 1, [6], time, "m")
            self.assertEqual(commit_of(vault, number), (1, [6], time, "m"))

    def test_messages(self):
        vault = small_vault()
        for message in ("", " ", "|", "a message, with signs: ~!", "long " * 200):
            number = commit(vault, 1, [], 0, message)
            self.assertEqual(commit_of(vault, number), (1, [], 0, message))

    def test_names_of_all_signs(self):
        vault = Vault()
        blob(vault, "x")
        names = [
            "-", "--", "-.", "-a", "...", ".a", "0", "00", "10", "9", "A", "AA", "Aa", "Z", "_", "__",
            "a", "a-", "a.", "a.b", "a0", "aA", "a_", "aa", "abcdefghijkl", "b", "z",
        ]
        entries = [(name, 0) for name in names]
        self.assertEqual(entries_of(vault, tree(vault, entries)), entries)


class TestNothingIsShared(unittest.TestCase):
    def test_what_is_handed_in_stays_as_it_was(self):
        vault = small_vault()
        entries = [("a", 0), ("b", 1)]
        parents = [5, 4]
        for again in range(2):
            tree(vault, entries)
            commit(vault, 1, parents, 3, "m")
        self.assertEqual(entries, [("a", 0), ("b", 1)])
        self.assertEqual(parents, [5, 4])

    def test_a_list_changed_behind_the_call_changes_nothing(self):
        vault = small_vault()
        entries = [("a", 0), ("b", 1)]
        parents = [5, 4]
        top = tree(vault, entries)
        number = commit(vault, top, parents, 3, "m")
        entries[0] = ("a", 2)
        entries.append(("c", 0))
        parents.clear()
        self.assertEqual(entries_of(vault, top), [("a", 0), ("b", 1)])
        self.assertEqual(commit_of(vault, number), (top, [5, 4], 3, "m"))
        self.assertEqual(tree(vault, [("a", 0), ("b", 1)]), top)
        self.assertEqual(commit(vault, top, [5, 4], 3, "m"), number)

    def test_a_pair_that_is_a_list_is_not_kept(self):
        vault = small_vault()
        pair = ["a", 2]
        top = tree(vault, [pair])
        pair[1] = 3
        self.assertEqual(entries_of(vault, top), [("a", 2)])
        self.assertIsInstance(entries_of(vault, top)[0], tuple)

    def test_a_told_list_that_is_changed_changes_nothing(self):
        vault = small_vault()
        told = all_told(vault)
        entries_of(vault, 1).append(("b", 0))
        entries_of(vault, 1).clear()
        commit_of(vault, 6)[1].reverse()
        commit_of(vault, 4)[1].append(5)
        self.assertEqual(all_told(vault), told)
        self.assertEqual(tree(vault, [("a", 0)]), 1)
        self.assertEqual(commit(vault, 1, [4, 5], 7, "third"), 6)

    def test_told_lists_are_new_ones(self):
        vault = small_vault()
        self.assertIsNot(entries_of(vault, 1), entries_of(vault, 1))
        one = commit_of(vault, 6)[1]
        other = commit_of(vault, 6)[1]
        self.assertIsNot(one, other)

    def test_asking_changes_nothing(self):
        vault = small_vault()
        told = all_told(vault)
        self.assertEqual(all_told(vault), told)
        self.assertEqual(vault.size(), 7)
