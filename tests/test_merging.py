"""[3.1] and [3.2]: entries merged by names, two trees as a whole, two commits."""

import itertools
import unittest

from strata.errors import NoObject
from strata.merging import merged, merged_trees
from strata.texts import merged_text
from strata.vaults import Vault, blob, commit, tree
from tests.helper import ABSENT, all_told, grow, refusal_of, shape_of, small_vault

# What an entry may be: none, a blob, a tree; alike on few lines, so that many are the same or merge.
ENTRIES = (
    None, "", "a\n", "b\n", "a\nb\n", {}, {"x": "a\n"}, {"x": "b\n"}, {"y": "a\n"}, {"x": "a\n", "y": "b\n"},
    {"x": {}}, {"x": {"y": "a\n"}}, {"x": {"y": "b\n", "z": ""}},
)


def conflict(ours, theirs):
    return "<<<<<<<\n" + ours + "=======\n" + theirs + ">>>>>>>\n"


def names_merged_by_the_words(base, ours, theirs, path):
    base = base if isinstance(base, dict) else {}
    told, conflicts = {}, []
    for name in sorted({**base, **ours, **theirs}):
        three = [row[name] if name in row else None for row in (base, ours, theirs)]
        stands, found = entry_merged_by_the_words(*three, path + [name])
        conflicts += found
        if stands is not None:
            told[name] = stands
    return told, conflicts


def entry_merged_by_the_words(base, ours, theirs, path):
    if ours == theirs:
        return ours, []
    if ours == base:
        return theirs, []
    if theirs == base:
        return ours, []
    if isinstance(ours, dict) and isinstance(theirs, dict):
        told, conflicts = names_merged_by_the_words(base, ours, theirs, path)
        return told if told else None, conflicts
    if isinstance(ours, str) and isinstance(theirs, str):
        text, many = merged_text(base if isinstance(base, str) else "", ours, theirs)
        return text, ["/".join(path)] * many
    return theirs if ours is None else ours, ["/".join(path)]


def merged_by_the_words(base, ours, theirs):
    if ours == theirs or theirs == base:
        return ours, []
    if ours == base:
        return theirs, []
    return names_merged_by_the_words(base, ours, theirs, [])


def merged_shapes(base, ours, theirs):
    """What the program comes to, in a vault of its own."""
    vault = Vault()
    numbers = [None if base is None else grow(vault, base), grow(vault, ours), grow(vault, theirs)]
    number, conflicts = merged_trees(vault, *numbers)
    return shape_of(vault, number), conflicts


class Merging(unittest.TestCase):
    def merges(self, base, ours, theirs, told):
        """Without conflicts, and the same turned about."""
        self.assertEqual(merged_shapes(base, ours, theirs), (told, []))
        self.assertEqual(merged_shapes(base, theirs, ours), (told, []))

    def clashes(self, base, ours, theirs, told, conflicts):
        self.assertEqual(merged_shapes(base, ours, theirs), (told, conflicts))
        self.assertEqual(merged_shapes(base, theirs, ours)[1], conflicts)


class TestAsAWhole(Merging):
    def test_ours_and_theirs_the_same(self):
        vault = Vault()
        bases = [None] + [grow(vault, shape) for shape in ({}, {"a": "x"}, {"a": {}, "b": "x"})]
        for base, both in itertools.product(bases, bases[1:]):
            before = all_told(vault)
            self.assertEqual(merged_trees(vault, base, both, both), (both, []))
            self.assertEqual(all_told(vault), before)

    def test_one_side_as_the_base(self):
        vault = Vault()
        tops = [grow(vault, shape) for shape in ({}, {"a": "x"}, {"a": {}}, {"a": {"b": "x"}, "c": "y"})]
        for base, other in itertools.product(tops, repeat=2):
            before = all_told(vault)
            self.assertEqual(merged_trees(vault, base, base, other), (other, []))
            self.assertEqual(merged_trees(vault, base, other, base), (other, []))
            self.assertEqual(all_told(vault), before)

    def test_without_a_base(self):
        self.merges(None, {"a": "x"}, {"b": "y"}, {"a": "x", "b": "y"})
        self.merges(None, {"a": "x", "c": "z"}, {"a": "x", "b": "y"}, {"a": "x", "b": "y", "c": "z"})
        self.merges(None, {}, {"a": "x"}, {"a": "x"})
        self.merges(None, {}, {"a": {}}, {"a": {}})
        self.clashes(None, {"a": "x\n"}, {"a": "y\n"}, {"a": conflict("x\n", "y\n")}, ["a"])

    def test_a_tree_without_entries_stands(self):
        self.merges({"a": "x", "b": "y"}, {"a": "x"}, {"b": "y"}, {})
        self.merges({"a": "x"}, {}, {}, {})
        self.merges({"a": "x"}, {"a": "x"}, {}, {})
        self.merges(None, {}, {}, {})
        self.merges({"d": {"a": "x", "b": "y"}}, {"d": {"a": "x"}}, {"d": {"b": "y"}}, {})

    def test_told_is_a_tuple_of_a_number_and_a_new_list(self):
        vault = Vault()
        one, other = grow(vault, {"a": "x"}), grow(vault, {"a": "y"})
        for numbers in ((None, one, one), (one, one, other), (None, one, other)):
            first, second = merged_trees(vault, *numbers), merged_trees(vault, *numbers)
            self.assertEqual([part.__class__ for part in (first,) + first], [tuple, int, list])
            self.assertIsNot(first[1], second[1])
            self.assertEqual(first, second)

    def test_the_trees_handed_in_stay(self):
        vault = Vault()
        shapes = ({"a": "x", "d": {"e": "1\n"}}, {"a": "y", "d": {"e": "2\n"}}, {"d": {"e": "3\n", "f": {}}})
        numbers = [grow(vault, shape) for shape in shapes]
        before = all_told(vault)
        merged_trees(vault, *numbers)
        merged_trees(vault, None, *numbers[1:])
        self.assertEqual([shape_of(vault, number) for number in numbers], list(shapes))
        self.assertEqual(all_told(vault)[:len(before)], before)


class TestByNames(Merging):
    def test_put_in(self):
        self.merges({}, {"a": "x"}, {"b": "y"}, {"a": "x", "b": "y"})
        self.merges({"m": "k"}, {"a": "x", "m": "k"}, {"m": "k", "z": {}}, {"a": "x", "m": "k", "z": {}})

    def test_taken_out(self):
        self.merges({"a": "x", "b": "y", "c": "z"}, {"b": "y", "c": "z"}, {"a": "x", "b": "y"}, {"b": "y"})
        self.merges({"a": {"b": "x"}, "c": "z"}, {"c": "z"}, {"a": {"b": "x"}, "c": "y"}, {"c": "y"})

    def test_changed(self):
        self.merges({"a": "x", "b": "y"}, {"a": "1", "b": "y"}, {"a": "x", "b": "2"}, {"a": "1", "b": "2"})

    def test_put_in_taken_out_and_changed_at_once(self):
        base = {"a": "1", "b": "2", "c": "3", "d": "4"}
        ours = {"b": "2", "c": "new", "d": "4", "e": "5"}
        theirs = {"a": "1", "b": "2", "c": "3", "f": {"g": "6"}}
        self.merges(base, ours, theirs, {"b": "2", "c": "new", "e": "5", "f": {"g": "6"}})

    def test_on_both_alike(self):
        self.merges({"k": "0"}, {"a": "x", "k": "0", "p": "1"}, {"a": "x", "k": "0"}, {"a": "x", "k": "0", "p": "1"})
        self.merges({"a": "x", "k": "0"}, {"k": "0", "p": "1"}, {"k": "0"}, {"k": "0", "p": "1"})
        self.merges({"a": "x"}, {"a": "y", "p": "1"}, {"a": "y"}, {"a": "y", "p": "1"})
        self.merges({"a": "x"}, {"a": {"b": ""}, "p": "1"}, {"a": {"b": ""}}, {"a": {"b": ""}, "p": "1"})

    def test_texts_changed_apart(self):
        self.merges({"a": "1\n2\n3\n"}, {"a": "x\n2\n3\n"}, {"a": "1\n2\ny\n"}, {"a": "x\n2\ny\n"})

    def test_texts_changed_not_alike(self):
        self.clashes({"a": "0\n"}, {"a": "1\n"}, {"a": "2\n"}, {"a": conflict("1\n", "2\n")}, ["a"])
        self.clashes({"a": "k\n0\n"}, {"a": "k\n"}, {"a": "k\n2"}, {"a": "k\n" + conflict("", "2\n")}, ["a"])

    def test_a_text_with_several_conflicts(self):
        ours, theirs = {"a": "1\nk\n2\nm\n3\n"}, {"a": "4\nk\n5\nm\n6\n"}
        text = conflict("1\n", "4\n") + "k\n" + conflict("2\n", "5\n") + "m\n" + conflict("3\n", "6\n")
        self.clashes({"a": "7\nk\n8\nm\n9\n"}, ours, theirs, {"a": text}, ["a", "a", "a"])
        self.clashes({"d": {"a": "7\nk\n8\n"}}, {"d": {"a": "1\nk\n2\n"}}, {"d": {"a": "4\nk\n5\n"}}, {
            "d": {"a": conflict("1\n", "4\n") + "k\n" + conflict("2\n", "5\n")}
        }, ["d/a", "d/a"])

    def test_taken_out_on_one_side_and_changed_on_the_other(self):
        for base, changed in itertools.product(("x", {"b": "x"}), ("y", {"b": "y"}, {})):
            told = {"a": changed}
            self.clashes({"a": base}, {}, {"a": changed}, told, ["a"])
            self.clashes({"a": base}, {"a": changed}, {}, told, ["a"])

    def test_taken_out_on_one_side_and_as_it_was_on_the_other(self):
        for base in ("x", "", {"b": "x"}, {}):
            self.merges({"a": base, "k": "0"}, {"k": "1"}, {"a": base, "k": "0"}, {"k": "1"})

    def test_both_blobs_where_the_base_has_none(self):
        for base in ({}, {"a": {}}, {"a": {"b": "x\n"}}):
            self.clashes(base, {"a": "x\n"}, {"a": "x\ny\n"}, {"a": conflict("x\n", "x\ny\n")}, ["a"])
            self.merges(base, {"a": ""}, {"a": "x\n"}, {"a": "x\n"})

    def test_both_trees_where_the_base_has_none(self):
        for base in ({}, {"a": "x"}, {"a": ""}):
            self.merges(base, {"a": {"b": "1"}}, {"a": {"c": "2"}}, {"a": {"b": "1", "c": "2"}})
            self.merges(base, {"a": {}}, {"a": {"b": "1"}}, {"a": {"b": "1"}})
            told = {"a": {"b": conflict("1\n", "2\n")}}
            self.clashes(base, {"a": {"b": "1\n"}}, {"a": {"b": "2\n"}}, told, ["a/b"])

    def test_a_base_tree_that_both_changed(self):
        self.merges({"a": {"b": "1", "c": "2"}}, {"a": {"b": "3", "c": "2"}}, {"a": {"b": "1"}}, {"a": {"b": "3"}})

    def test_a_blob_made_a_tree_on_one_side(self):
        for other in ({"k": "1"}, {"a": "x", "k": "2"}):
            self.merges({"a": "x"}, {"a": {"b": "y"}}, {**other, "a": "x"}, {**other, "a": {"b": "y"}})

    def test_a_tree_made_a_blob_on_one_side(self):
        self.merges({"a": {"b": "y"}}, {"a": "x"}, {"a": {"b": "y"}, "k": "1"}, {"a": "x", "k": "1"})
        self.merges({"a": {}}, {"a": ""}, {"a": {}, "k": "1"}, {"a": "", "k": "1"})

    def test_made_the_other_kind_on_one_side_and_changed_on_the_other(self):
        for base in ("x", {"b": "x"}, None):
            entry = {} if base is None else {"a": base}
            for one, other in itertools.product(("y", ""), ({"b": "y"}, {})):
                self.clashes(entry, {"a": one}, {"a": other}, {"a": one}, ["a"])
                self.clashes(entry, {"a": other}, {"a": one}, {"a": other}, ["a"])

    def test_made_the_other_kind_on_both(self):
        self.merges({"a": "x"}, {"a": {"b": "1"}}, {"a": {"b": "1"}, "k": ""}, {"a": {"b": "1"}, "k": ""})
        self.merges({"a": "x"}, {"a": {"b": "1"}}, {"a": {"c": "2"}}, {"a": {"b": "1", "c": "2"}})
        self.clashes({"a": {"b": "0"}}, {"a": "1\n"}, {"a": "2\n"}, {"a": conflict("1\n", "2\n")}, ["a"])

    def test_a_folder_of_which_nothing_is_left(self):
        base = {"d": {"a": "1", "b": "2"}, "k": "0"}
        self.merges(base, {"d": {"a": "1"}, "k": "0"}, {"d": {"b": "2"}, "k": "0"}, {"k": "0"})
        deep = {"d": {"e": {"a": "1", "b": "2"}}, "k": "0"}
        self.merges(deep, {"d": {"e": {"a": "1"}}, "k": "0"}, {"d": {"e": {"b": "2"}}, "k": "0"}, {"k": "0"})

    def test_a_folder_of_which_something_is_left_above(self):
        base = {"d": {"e": {"a": "1", "b": "2"}, "f": "3"}}
        ours, theirs = {"d": {"e": {"a": "1"}, "f": "3"}}, {"d": {"e": {"b": "2"}, "f": "3"}}
        self.merges(base, ours, theirs, {"d": {"f": "3"}})

    def test_a_folder_without_entries_that_one_side_has_stands(self):
        self.merges({"k": "0"}, {"d": {}, "k": "0"}, {"k": "1"}, {"d": {}, "k": "1"})
        self.merges({"d": {"a": "1"}, "k": "0"}, {"d": {}, "k": "0"}, {"d": {"a": "1"}, "k": "1"}, {"d": {}, "k": "1"})
        self.merges({"d": {"a": "1"}, "k": "0"}, {"d": {}, "k": "0"}, {"d": {}, "k": "1"}, {"d": {}, "k": "1"})
        self.merges(None, {"d": {"e": {}}}, {"d": {}}, {"d": {"e": {}}})


class TestPaths(Merging):
    def test_several_deep(self):
        base = {"a": {"b": {"c": {"d": "0\n"}}}}
        ours = {"a": {"b": {"c": {"d": "1\n"}}}}
        theirs = {"a": {"b": {"c": {"d": "2\n"}}}}
        told = {"a": {"b": {"c": {"d": conflict("1\n", "2\n")}}}}
        self.clashes(base, ours, theirs, told, ["a/b/c/d"])

    def test_in_the_order_of_the_names(self):
        names = ("a", "a-", "a.b", "a0", "b", "B", "_", "10", "9")
        base = {name: "0\n" for name in names}
        ours = {name: "1\n" for name in names}
        theirs = {name: "2\n" for name in names}
        self.clashes(base, ours, theirs, {name: conflict("1\n", "2\n") for name in names}, sorted(names))

    def test_a_folder_ahead_of_a_name_that_goes_on(self):
        # By the signs of the paths "a-" and "a.b" would stand ahead of "a/z".
        def of(text):
            return {"a": {"b": text, "z": text}, "a-": text, "a.b": {"c": text}, "a0": text}
        told = of(conflict("1\n", "2\n"))
        self.clashes(of("0\n"), of("1\n"), of("2\n"), told, ["a/b", "a/z", "a-", "a.b/c", "a0"])

    def test_conflicts_of_all_sorts_at_once(self):
        base = {"a": "0\nk\n0\n", "d": {"e": "0\n", "f": "0\n"}, "x": {"y": "0\n"}}
        ours = {"a": "1\nk\n1\n", "d": {"e": "1\n", "g": {"h": ""}}, "x": "1\n"}
        theirs = {"a": "2\nk\n2\n", "d": {"e": "2\n", "f": "2\n", "g": "2\n"}, "x": {"y": "2\n"}}
        text = conflict("1\n", "2\n")
        told = {"a": text + "k\n" + text, "d": {"e": text, "f": "2\n", "g": {"h": ""}}, "x": "1\n"}
        self.clashes(base, ours, theirs, told, ["a", "a", "d/e", "d/f", "d/g", "x"])

    def test_thirty_deep(self):
        base, ours, theirs, told = "0\n", "1\n", "2\n", conflict("1\n", "2\n")
        for depth in range(30):
            base, ours, theirs, told = {"n": base}, {"n": ours}, {"n": theirs}, {"n": told}
        self.clashes(base, ours, theirs, told, ["/".join(["n"] * 30)])

    def test_names_of_twelve_signs_and_paths_of_twenty_names(self):
        base, ours, theirs = "0\n", "1\n", {}
        for depth in range(20):
            base, ours, theirs = {"abcdefghijkl": base}, {"abcdefghijkl": ours}, {"abcdefghijkl": theirs}
        self.clashes(base, ours, theirs, ours, ["/".join(["abcdefghijkl"] * 20)])


class TestAllSmallTrees(unittest.TestCase):
    def test_one_entry(self):
        for three in itertools.product(ENTRIES, repeat=3):
            shapes = [{} if entry is None else {"n": entry} for entry in three]
            self.assertEqual(merged_shapes(*shapes), merged_by_the_words(*shapes), shapes)

    def test_one_entry_in_a_folder(self):
        for three in itertools.product(ENTRIES, repeat=3):
            shapes = [{"m": "k", "d": {} if entry is None else {"n": entry}} for entry in three]
            self.assertEqual(merged_shapes(*shapes), merged_by_the_words(*shapes), shapes)

    def test_whole_trees_with_a_base_and_without(self):
        tops = [shape for shape in ENTRIES if isinstance(shape, dict)]
        for shapes in itertools.product([None] + tops, tops, tops):
            self.assertEqual(merged_shapes(*shapes), merged_by_the_words(*shapes), shapes)

    def test_two_entries(self):
        few = (None, "a\n", "b\n", {"x": "a\n"}, {"x": "b\n"})
        tops = [{name: entry for name, entry in zip("mn", two) if entry} for two in itertools.product(few, repeat=2)]
        for shapes in itertools.product([None] + tops, tops, tops):
            self.assertEqual(merged_shapes(*shapes), merged_by_the_words(*shapes), shapes)


class TestNoTree(unittest.TestCase):
    def test_in_each_of_the_three_places(self):
        vault = small_vault()
        before = all_told(vault)
        top = 1
        for number in ABSENT + (0, 2, 3, 4, 5, 6):
            for numbers in itertools.product((top, number), repeat=3):
                if number in numbers:
                    self.assertIs(refusal_of(merged_trees, vault, *numbers), NoObject, numbers)
            self.assertIs(refusal_of(merged_trees, vault, None, number, top), NoObject, number)
            self.assertIs(refusal_of(merged_trees, vault, None, top, number), NoObject, number)
            self.assertIs(refusal_of(merged_trees, vault, None, number, number), NoObject, number)
        self.assertEqual(all_told(vault), before)

    def test_where_the_two_others_would_have_to_be_merged(self):
        vault = small_vault()
        one, other = grow(vault, {"a": "x", "d": {"e": "1"}}), grow(vault, {"a": "y", "d": {"e": "2"}})
        before = all_told(vault)
        for number in (-1, vault.size(), 0, 4):
            for numbers in itertools.permutations((number, one, other)):
                self.assertIs(refusal_of(merged_trees, vault, *numbers), NoObject, numbers)
        self.assertEqual(all_told(vault), before)

    def test_an_empty_vault(self):
        vault = Vault()
        self.assertIs(refusal_of(merged_trees, vault, None, 0, 0), NoObject)
        self.assertIs(refusal_of(merged_trees, vault, 0, 0, 0), NoObject)
        self.assertIs(refusal_of(merged, vault, 0, 0), NoObject)
        self.assertEqual(vault.size(), 0)


class TestCommits(unittest.TestCase):
    def setUp(self):
        self.vault = Vault()
        blob(self.vault, "apart")

    def commit_of_shape(self, shape, parents, time=0):
        return commit(self.vault, grow(self.vault, shape), parents, time, "m")

    def merges(self, ours, theirs, told, conflicts):
        before = all_told(self.vault)
        number, found = merged(self.vault, ours, theirs)
        self.assertEqual((shape_of(self.vault, number), found), (told, conflicts))
        self.assertEqual(all_told(self.vault)[:len(before)], before)

    def test_one_commit_twice(self):
        for shape in ({}, {"a": "x"}, {"a": {"b": "y"}}):
            number = self.commit_of_shape(shape, [])
            self.assertEqual(merged(self.vault, number, number), (grow(self.vault, shape), []))

    def test_one_an_ancestor_of_the_other(self):
        first = self.commit_of_shape({"a": "1\n", "b": "1\n"}, [])
        second = self.commit_of_shape({"a": "2\n"}, [first])
        third = self.commit_of_shape({"c": {}}, [second])
        for older, newer in ((first, second), (first, third), (second, third)):
            told = shape_of(self.vault, merged(self.vault, newer, newer)[0])
            self.merges(older, newer, told, [])
            self.merges(newer, older, told, [])

    def test_two_sides_of_one_ancestor(self):
        first = self.commit_of_shape({"a": "1\n2\n3\n", "d": {"e": "0\n"}}, [])
        ours = self.commit_of_shape({"a": "x\n2\n3\n", "d": {"e": "1\n"}}, [first])
        theirs = self.commit_of_shape({"a": "1\n2\ny\n", "d": {"e": "2\n"}, "n": "new"}, [first])
        told = {"a": "x\n2\ny\n", "d": {"e": conflict("1\n", "2\n")}, "n": "new"}
        self.merges(ours, theirs, told, ["d/e"])
        told["d"] = {"e": conflict("2\n", "1\n")}
        self.merges(theirs, ours, told, ["d/e"])

    def test_the_trees_alone_count_not_the_steps(self):
        first = self.commit_of_shape({"a": "1"}, [])
        away = self.commit_of_shape({"a": "2"}, [first])
        back = self.commit_of_shape({"a": "1"}, [away])
        other = self.commit_of_shape({"a": "3"}, [first])
        self.merges(back, other, {"a": "3"}, [])
        self.merges(other, back, {"a": "3"}, [])

    def test_the_nearest_of_a_line_of_ancestors_is_the_base(self):
        first = self.commit_of_shape({"a": "1\n"}, [], 9)
        second = self.commit_of_shape({"a": "2\n"}, [first], 5)
        ours = self.commit_of_shape({"a": "1\n"}, [second], 1)
        theirs = self.commit_of_shape({"a": "2\n", "n": ""}, [second], 1)
        self.merges(ours, theirs, {"a": "1\n", "n": ""}, [])

    def crossed(self, one_time, other_time):
        one = self.commit_of_shape({"a": "1\n"}, [], one_time)
        other = self.commit_of_shape({"a": "2\n"}, [], other_time)
        ours = self.commit_of_shape({"a": "1\n", "o": ""}, [one, other])
        theirs = self.commit_of_shape({"a": "2\n", "t": ""}, [other, one])
        return ours, theirs

    def test_crossed_histories_by_the_greatest_time(self):
        self.merges(*self.crossed(6, 5), {"a": "2\n", "o": "", "t": ""}, [])
        self.merges(*self.crossed(5, 6), {"a": "1\n", "o": "", "t": ""}, [])

    def test_crossed_histories_with_like_times_by_the_lowest_number(self):
        ours, theirs = self.crossed(5, 5)
        self.merges(ours, theirs, {"a": "2\n", "o": "", "t": ""}, [])
        self.merges(theirs, ours, {"a": "2\n", "o": "", "t": ""}, [])

    def test_no_common_ancestor(self):
        one = self.commit_of_shape({"a": "k\nx\n", "b": "1"}, [])
        other = self.commit_of_shape({"a": "k\n", "c": "2"}, [])
        later = self.commit_of_shape({"a": "k\n", "c": "2"}, [other])
        for theirs in (other, later):
            self.merges(one, theirs, {"a": conflict("k\nx\n", "k\n"), "b": "1", "c": "2"}, ["a"])

    def test_an_ancestor_with_an_empty_tree_is_a_base(self):
        first = self.commit_of_shape({}, [])
        ours = self.commit_of_shape({"a": ""}, [first])
        theirs = self.commit_of_shape({}, [first], 3)
        self.merges(ours, theirs, {"a": ""}, [])
        self.merges(theirs, ours, {"a": ""}, [])

    def test_as_the_trees_of_the_two_with_that_of_the_best_common_one(self):
        shapes = ({}, {"a": "x\n"}, {"a": "y\n"}, {"a": {"b": "z"}})
        for base, ours, theirs in itertools.product(shapes, repeat=3):
            self.vault = Vault()
            first = self.commit_of_shape(base, [])
            two = [self.commit_of_shape(shape, [first], 1) for shape in (ours, theirs)]
            self.merges(*two, *merged_by_the_words(base, ours, theirs))

    def test_told_is_a_tuple_of_a_number_and_a_list(self):
        ours, theirs = self.crossed(1, 2)
        told = merged(self.vault, ours, theirs)
        self.assertEqual([part.__class__ for part in (told,) + told], [tuple, int, list])
        self.assertEqual(self.vault.kind(told[0]), "tree")

    def test_what_is_no_commit(self):
        vault = small_vault()
        before = all_told(vault)
        for number in ABSENT + (0, 1, 2, 3):
            for right in (4, 5, 6):
                self.assertIs(refusal_of(merged, vault, number, right), NoObject, number)
                self.assertIs(refusal_of(merged, vault, right, number), NoObject, number)
            self.assertIs(refusal_of(merged, vault, number, number), NoObject, number)
        self.assertEqual(all_told(vault), before)

    def test_a_merge_is_committed_and_merged_again(self):
        first = self.commit_of_shape({"a": "1\n2\n3\n"}, [])
        ours = self.commit_of_shape({"a": "x\n2\n3\n"}, [first])
        theirs = self.commit_of_shape({"a": "1\n2\ny\n"}, [first])
        joint = commit(self.vault, merged(self.vault, ours, theirs)[0], [ours, theirs], 2, "both")
        self.merges(joint, theirs, {"a": "x\n2\ny\n"}, [])
        later = self.commit_of_shape({"a": "1\n2\ny\nz\n"}, [theirs], 3)
        self.merges(joint, later, {"a": "x\n2\ny\nz\n"}, [])

    def test_one_object_where_the_merge_is_there_already(self):
        told = tree(self.vault, [("a", blob(self.vault, "x\n2\ny\n"))])
        first = self.commit_of_shape({"a": "1\n2\n3\n"}, [])
        ours = self.commit_of_shape({"a": "x\n2\n3\n"}, [first])
        theirs = self.commit_of_shape({"a": "1\n2\ny\n"}, [first])
        self.assertEqual(merged(self.vault, ours, theirs), (told, []))
