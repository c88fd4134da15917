"""[4.1] and [4.2]: what lies at a path, a tree with an object there or without, files, differences."""

import itertools
import unittest

from strata.errors import BadTree, NoObject, NoPath
from strata.vaults import Vault, blob, commit, entries_of, tree
from strata.walking import differences, files, found_at, with_object
from tests.helper import ABSENT, all_told, grow, refusal_of, shape_of, small_vault

TWENTY = "/".join(["n"] * 20)
LONGEST = "/".join(["abcdefghijkl"] * 20)
NO_PATHS = (
    "/", "//", "///", "/a", "a/", "/a/", "a//b", "//a", "a//", "a/b/", "/a/b", "a///b", ".", "..", "a/.", "a/..",
    "./a", "../a", "a/./b", "a/../b", " ", "a b", " a", "a ", "a/ /b", "a/b ", "a\n", "\n", "a/\n", "a=b", "a,b", "~",
    "a|b", "a\\b", "abcdefghijklm", "a/abcdefghijklm", "abcdefghijklm/a", TWENTY + "/n", LONGEST + "/a",
    TWENTY + "/n/n/n", TWENTY + "/", "/" + TWENTY, "\u00e9", "a/\u0665",
)


def nested(path, leaf):
    """The shape of a tree with a leaf at a path alone."""
    shape = leaf
    for name in reversed(path.split("/")):
        shape = {name: shape}
    return shape


def at_by_the_words(shape, path):
    for name in path.split("/") if path else []:
        shape = shape.get(name) if isinstance(shape, dict) else None
    return shape


def apart(shape):
    """A copy in which no two places share one dict."""
    return {name: apart(shape[name]) for name in shape} if isinstance(shape, dict) else shape


def with_by_the_words(shape, path, leaf):
    """A shape with a leaf at a path, built step by step on a copy."""
    told = apart(shape)
    place = told
    names = path.split("/")
    for name in names[:-1]:
        if not isinstance(place.get(name), dict):
            place[name] = {}
        place = place[name]
    place[names[-1]] = leaf
    return told


def without_by_the_words(shape, path):
    told = apart(shape)
    if at_by_the_words(told, path) is None:
        return told
    names = path.split("/")
    for many in range(len(names), 0, -1):
        above = at_by_the_words(told, "/".join(names[:many - 1]))
        if many == len(names) or above[names[many - 1]] == {}:
            above.pop(names[many - 1])
    return told


def files_by_the_words(shape):
    """All (path, text) of a shape, by the names of the paths."""
    told = []
    for name in shape:
        if isinstance(shape[name], dict):
            told += [(f"{name}/{path}", text) for path, text in files_by_the_words(shape[name])]
        else:
            told.append((name, shape[name]))
    return sorted(told, key=lambda pair: pair[0].split("/"))


def differences_by_the_words(one, other):
    first, second = dict(files_by_the_words(one)), dict(files_by_the_words(other))
    paths = sorted(set(first) | set(second), key=lambda path: path.split("/"))
    return [(path, first.get(path), second.get(path)) for path in paths if first.get(path) != second.get(path)]


def small_shapes():
    leaves = ("x", "y", {}, {"a": "x"}, {"b": "y"}, {"a": {}}, {"a": {"b": "x"}, "b": "x"})
    alone = [{name: leaf} for name in "ab" for leaf in leaves]
    both = [{"a": one, "b": other} for one, other in itertools.product(leaves, repeat=2)]
    return [{}] + alone + both


def small_paths():
    return ["/".join(names) for many in (1, 2, 3) for names in itertools.product("ab", repeat=many)]


class Walking(unittest.TestCase):
    def setUp(self):
        self.vault = Vault()

    def grown(self, shape):
        return grow(self.vault, shape)

    def becomes(self, shape, path, leaf, told):
        """A leaf, or None, put at a path: the tree that is told is the very one, and all from before stays."""
        top = self.grown(shape)
        number = None if leaf is None else self.grown(leaf)
        before = all_told(self.vault)
        made = with_object(self.vault, top, path, number)
        self.assertEqual(shape_of(self.vault, made), told)
        self.assertEqual(all_told(self.vault)[:len(before)], before)
        self.assertEqual(shape_of(self.vault, top), shape)
        self.assertEqual(self.grown(told), made)


class TestFoundAt(Walking):
    def test_the_empty_path_is_the_tree_itself(self):
        for shape in ({}, {"a": "x"}, {"a": {"b": ""}}):
            top = self.grown(shape)
            self.assertEqual(found_at(self.vault, top, ""), top)

    def test_names_one_to_several_deep(self):
        shape = {"a": {"b": {"c": "x", "d": {}}, "e": "y"}, "f": "", "a-b": "z"}
        top = self.grown(shape)
        for path in ("a", "a/b", "a/b/c", "a/b/d", "a/e", "f", "a-b"):
            number = found_at(self.vault, top, path)
            self.assertEqual(number, self.grown(at_by_the_words(shape, path)), path)

    def test_the_very_first_number(self):
        blob(self.vault, "x")
        top = tree(self.vault, [("a", 0)])
        self.assertEqual(found_at(self.vault, top, "a"), 0)
        self.vault = Vault()
        self.assertEqual(found_at(self.vault, self.grown({}), ""), 0)

    def test_nothing_there(self):
        top = self.grown({"a": {"b": {"c": "x"}}, "d": "y", "e": {}})
        for path in ("x", "a/x", "a/b/x", "a/x/c", "x/b/c", "e/x", "b", "c", "A", "aa", "a/bb", "b/c", "a/c"):
            self.assertIs(refusal_of(found_at, self.vault, top, path), NoPath, path)

    def test_a_blob_on_the_way(self):
        top = self.grown({"a": "x", "b": {"c": "y"}})
        for path in ("a/b", "a/a", "a/b/c", "b/c/d", "b/c/c/c"):
            self.assertIs(refusal_of(found_at, self.vault, top, path), NoPath, path)

    def test_twenty_names_and_one_more(self):
        for path in (TWENTY, LONGEST):
            top = self.grown(nested(path, {"n": "deep"}))
            self.assertEqual(shape_of(self.vault, found_at(self.vault, top, path)), {"n": "deep"})
            self.assertIs(refusal_of(found_at, self.vault, top, path + "/n"), NoPath)

    def test_what_is_no_path(self):
        top = self.grown({"a": {"b": "x", "a": "y"}, "n": nested(TWENTY, "z")})
        for path in NO_PATHS:
            self.assertIs(refusal_of(found_at, self.vault, top, path), NoPath, path)

    def test_names_of_all_sorts(self):
        names = ("...", ".a", "-", "_", "0", "a.b", "A", "abcdefghijkl")
        top = self.grown({name: {other: other for other in names} for name in names})
        for name, other in itertools.product(names, repeat=2):
            self.assertEqual(shape_of(self.vault, found_at(self.vault, top, f"{name}/{other}")), other)

    def test_what_is_no_tree(self):
        vault = small_vault()
        for number in ABSENT + (0, 2, 3, 4, 5, 6):
            for path in ("", "a", "a/b", "x"):
                self.assertIs(refusal_of(found_at, vault, number, path), NoObject, (number, path))

    def test_what_is_no_path_ahead_of_what_is_no_tree(self):
        vault = small_vault()
        for number, path in itertools.product((-1, 7, 0, 4), NO_PATHS):
            self.assertIs(refusal_of(found_at, vault, number, path), NoPath, (number, path))

    def test_asking_changes_nothing(self):
        top = self.grown({"a": {"b": "x"}})
        before = all_told(self.vault)
        found_at(self.vault, top, "a/b")
        for path in ("a/c", "x", "a/b/c", "/"):
            refusal_of(found_at, self.vault, top, path)
        self.assertEqual(all_told(self.vault), before)

    def test_all_small_trees(self):
        for shape, path in itertools.product(small_shapes(), [""] + small_paths()):
            top = self.grown(shape)
            there = at_by_the_words(shape, path)
            if there is None:
                self.assertIs(refusal_of(found_at, self.vault, top, path), NoPath, (shape, path))
            else:
                self.assertEqual(found_at(self.vault, top, path), self.grown(there), (shape, path))


class TestWithObject(Walking):
    def test_put_in(self):
        self.becomes({}, "a", "x", {"a": "x"})
        self.becomes({"b": "y"}, "a", "x", {"a": "x", "b": "y"})
        self.becomes({"b": "y"}, "c", "x", {"b": "y", "c": "x"})
        self.becomes({"a": {"b": "y"}}, "a/c", "x", {"a": {"b": "y", "c": "x"}})

    def test_a_tree_put_in(self):
        self.becomes({}, "a", {}, {"a": {}})
        self.becomes({"b": {}}, "a", {"c": {"d": ""}}, {"a": {"c": {"d": ""}}, "b": {}})
        self.becomes({"b": {}}, "b/e", {"c": {"d": ""}}, {"b": {"e": {"c": {"d": ""}}}})
        self.becomes({}, "a/b/c", {}, {"a": {"b": {"c": {}}}})

    def test_what_is_there_is_replaced(self):
        for old, new in itertools.product(("x", "", {}, {"c": "y"}), repeat=2):
            self.becomes({"a": old, "b": "k"}, "a", new, {"a": new, "b": "k"})
            self.becomes({"d": {"a": old, "b": "k"}}, "d/a", new, {"d": {"a": new, "b": "k"}})

    def test_the_same_put_where_it_is(self):
        top = self.grown({"a": {"b": "x"}, "c": "y"})
        before = all_told(self.vault)
        self.assertEqual(with_object(self.vault, top, "a/b", self.grown("x")), top)
        self.assertEqual(with_object(self.vault, top, "a", self.grown({"b": "x"})), top)
        self.assertEqual(all_told(self.vault), before)

    def test_trees_are_made_on_the_way(self):
        self.becomes({}, "a/b/c/d", "x", {"a": {"b": {"c": {"d": "x"}}}})
        self.becomes({"a": {"k": "0"}}, "a/b/c", "x", {"a": {"b": {"c": "x"}, "k": "0"}})

    def test_a_blob_on_the_way_is_replaced(self):
        self.becomes({"a": "x"}, "a/b", "y", {"a": {"b": "y"}})
        self.becomes({"a": "x", "k": "0"}, "a/b/c", "y", {"a": {"b": {"c": "y"}}, "k": "0"})
        self.becomes({"a": {"b": "x", "k": "0"}}, "a/b/c/d", {}, {"a": {"b": {"c": {"d": {}}}, "k": "0"}})

    def test_a_tree_within_itself(self):
        top = self.grown({"a": "x"})
        made = with_object(self.vault, top, "a/b", top)
        self.assertEqual(shape_of(self.vault, made), {"a": {"b": {"a": "x"}}})

    def test_twenty_names_and_one_more(self):
        for path in (TWENTY, LONGEST):
            self.becomes({"k": "0"}, path, "x", {**nested(path, "x"), "k": "0"})
            self.becomes({**nested(path, "x"), "k": "0"}, path, None, {"k": "0"})
            self.assertIs(refusal_of(with_object, self.vault, self.grown({}), path + "/n", self.grown("x")), NoPath)
            self.assertIs(refusal_of(with_object, self.vault, self.grown({}), path + "/n", None), NoPath)

    def test_the_number_0(self):
        number = blob(self.vault, "x")
        self.assertEqual(number, 0)
        made = with_object(self.vault, self.grown({}), "a", 0)
        self.assertEqual(entries_of(self.vault, made), [("a", 0)])

    def test_the_entries_rise(self):
        names = ("b", "a", "B", "a-", "10", "9", "_", "a.b", "aa")
        made = self.grown({})
        for name in names:
            made = with_object(self.vault, made, name, self.grown(name))
        self.assertEqual([name for name, number in entries_of(self.vault, made)], sorted(names))

    def test_all_small_trees(self):
        for shape, path, leaf in itertools.product(small_shapes(), small_paths(), ("x", {}, {"b": "y"})):
            self.becomes(shape, path, leaf, with_by_the_words(shape, path, leaf))


class TestWithNone(Walking):
    def test_taken_out(self):
        self.becomes({"a": "x", "b": "y"}, "a", None, {"b": "y"})
        self.becomes({"a": {"c": "x"}, "b": "y"}, "a", None, {"b": "y"})
        self.becomes({"a": {"c": "x", "d": "z"}, "b": "y"}, "a/c", None, {"a": {"d": "z"}, "b": "y"})
        self.becomes({"a": {}, "b": "y"}, "a", None, {"b": "y"})

    def test_trees_on_the_way_that_have_no_entries_then(self):
        self.becomes({"a": {"b": {"c": "x"}}, "k": "0"}, "a/b/c", None, {"k": "0"})
        self.becomes({"a": {"b": {"c": "x"}, "k": "0"}}, "a/b/c", None, {"a": {"k": "0"}})
        self.becomes({"a": {"b": {"c": {}}}, "k": "0"}, "a/b/c", None, {"k": "0"})
        self.becomes({"a": {"b": {"c": {"d": "x"}}}, "k": "0"}, "a/b", None, {"k": "0"})

    def test_other_trees_without_entries_stay(self):
        self.becomes({"a": {"b": {"c": "x"}, "e": {}}, "f": {}}, "a/b/c", None, {"a": {"e": {}}, "f": {}})

    def test_the_top_may_be_left_without_any(self):
        self.becomes({"a": "x"}, "a", None, {})
        self.becomes({"a": {"b": {"c": "x"}}}, "a/b/c", None, {})
        self.becomes({"a": {"b": {"c": "x"}}}, "a", None, {})

    def test_where_nothing_is(self):
        shapes = ({}, {"a": "x"}, {"a": {}}, {"a": {"b": "x"}}, {"a": {"b": {}}}, {"d": {"e": {}}, "f": {}})
        paths = ("x", "a/x", "a/b/x", "x/y/z", "a/b/c/d", "d/e/f", "d/x", "f/x", "d/e/f/g")
        for shape, path in itertools.product(shapes, paths):
            top = self.grown(shape)
            before = all_told(self.vault)
            self.assertEqual(with_object(self.vault, top, path, None), top, (shape, path))
            self.assertEqual(all_told(self.vault), before)

    def test_a_blob_on_the_way_stays(self):
        self.becomes({"a": "x"}, "a/b", None, {"a": "x"})
        self.becomes({"a": {"b": ""}}, "a/b/c/d", None, {"a": {"b": ""}})

    def test_all_small_trees(self):
        for shape, path in itertools.product(small_shapes(), small_paths()):
            self.becomes(shape, path, None, without_by_the_words(shape, path))

    def test_put_in_and_taken_out_again(self):
        top = self.grown({"k": {"m": "0"}})
        for path in ("a", "a/b/c", "k/a", "k/n/o"):
            more = with_object(self.vault, top, path, self.grown("new"))
            self.assertEqual(with_object(self.vault, more, path, None), top)


class TestRefusalsOfWithObject(unittest.TestCase):
    def setUp(self):
        self.vault = small_vault()
        self.before = all_told(self.vault)

    def refused(self, error, top, path, number):
        self.assertIs(refusal_of(with_object, self.vault, top, path, number), error, (top, path, number))
        self.assertEqual(all_told(self.vault), self.before)

    def test_what_is_no_path_ahead_of_all(self):
        for path in NO_PATHS + ("",):
            for top, number in itertools.product((1, -1, 7, 0, 4), (None, 0, 1, 4, 7, -1)):
                self.refused(NoPath, top, path, number)

    def test_what_is_no_tree_ahead_of_the_object(self):
        for top in ABSENT + (0, 2, 3, 4, 5, 6):
            for path, number in itertools.product(("a", "b", "a/b/c"), (None, 0, 1, 4, 7, -1)):
                self.refused(NoObject, top, path, number)

    def test_a_number_without_an_object(self):
        for number, path in itertools.product(ABSENT, ("a", "b", "a/b", "b/c/d", TWENTY)):
            self.refused(NoObject, 1, path, number)

    def test_a_commit(self):
        for number, path in itertools.product((4, 5, 6), ("a", "b", "a/b", "b/c/d", TWENTY)):
            self.refused(BadTree, 1, path, number)

    def test_nothing_else_is_refused(self):
        for number, path in itertools.product((None, 0, 1, 2, 3), ("a", "b", "a/b", "b/c/d", TWENTY)):
            self.assertIsNone(refusal_of(with_object, self.vault, 1, path, number))


class TestFiles(Walking):
    def told(self, shape, path=""):
        return [(at, shape_of(self.vault, number)) for at, number in files(self.vault, self.grown(shape), path)]

    def test_all_blobs_below(self):
        self.assertEqual(self.told({"a": "x"}), [("a", "x")])
        shape = {"a": {"b": {"c": "1", "d": {}}, "e": "2"}, "f": "3", "g": {}}
        self.assertEqual(self.told(shape), [("a/b/c", "1"), ("a/e", "2"), ("f", "3")])

    def test_an_empty_tree(self):
        for path in ("", "a", "a/b"):
            self.assertEqual(self.told({}, path), [])
            self.assertEqual(self.told({"a": {"b": {}}, "c": {}}, path), [])

    def test_by_the_names_of_their_paths(self):
        shape = {"a": {"b": "1", "z": "2"}, "a-": "3", "a-b": "4", "a.": {"b": "5"}, "a.txt": "6", "a0": "7", "A": "8"}
        told = ["A", "a/b", "a/z", "a-", "a-b", "a./b", "a.txt", "a0"]
        self.assertEqual([path for path, text in self.told(shape)], told)
        self.assertEqual([path for path, text in self.told({"d": shape})], ["d/" + path for path in told])

    def test_the_path_at_which_the_top_lies(self):
        shape = {"a": {"b": "1"}, "c": "2"}
        self.assertEqual(self.told(shape, "x"), [("x/a/b", "1"), ("x/c", "2")])
        self.assertEqual(self.told(shape, "x/y.z/-"), [("x/y.z/-/a/b", "1"), ("x/y.z/-/c", "2")])
        self.assertEqual(self.told(shape, LONGEST), [(LONGEST + "/a/b", "1"), (LONGEST + "/c", "2")])

    def test_a_folder_s_files_are_those_at_its_path(self):
        top = self.grown({"a": {"b": {"c": "1", "d": "2"}, "e": "3"}, "f": "4"})
        for path in ("a", "a/b"):
            below = [pair for pair in files(self.vault, top, "") if pair[0].startswith(path + "/")]
            self.assertEqual(files(self.vault, found_at(self.vault, top, path), path), below)

    def test_each_is_found_at_its_path(self):
        top = self.grown({"a": {"b": {"c": "1", "d": "1"}, "e": "3"}, "f": "", "g": {"b": {"c": "1"}}})
        for path, number in files(self.vault, top, ""):
            self.assertEqual(found_at(self.vault, top, path), number)

    def test_a_blob_at_several_paths(self):
        number = self.grown("x")
        top = self.grown({"a": "x", "b": {"a": "x", "c": {"a": "x"}}, "d": {"c": {"a": "x"}}})
        told = [(path, number) for path in ("a", "b/a", "b/c/a", "d/c/a")]
        self.assertEqual(files(self.vault, top, ""), told)

    def test_thirty_deep(self):
        path = "/".join(["n"] * 30)
        self.assertEqual(self.told(nested(path, "x")), [(path, "x")])
        self.assertEqual(self.told(nested(path, "x"), "m"), [("m/" + path, "x")])

    def test_all_small_trees(self):
        for shape in small_shapes():
            self.assertEqual(self.told(shape), files_by_the_words(shape))
            self.assertEqual(self.told({"a": shape, "a-b": "x"}), files_by_the_words({"a": shape, "a-b": "x"}))

    def test_what_is_no_tree(self):
        vault = small_vault()
        before = all_told(vault)
        for number, path in itertools.product(ABSENT + (0, 2, 3, 4, 5, 6), ("", "a", "a/b")):
            self.assertIs(refusal_of(files, vault, number, path), NoObject, number)
        self.assertEqual(all_told(vault), before)

    def test_what_is_no_path(self):
        vault = small_vault()
        for number, path in itertools.product((1, 0, 7), NO_PATHS):
            self.assertIs(refusal_of(files, vault, number, path), NoPath, (number, path))

    def test_told_is_a_new_list_of_tuples(self):
        top = self.grown({"a": "x", "b": {"c": "y"}})
        before = all_told(self.vault)
        first = files(self.vault, top, "")
        self.assertEqual([part.__class__ for part in [first] + first], [list, tuple, tuple])
        first.clear()
        self.assertEqual(len(files(self.vault, top, "")), 2)
        self.assertEqual(all_told(self.vault), before)


class TestDifferences(Walking):
    def differ(self, one, other, told):
        """Rows with texts in the place of numbers, and the same turned about with the two turned."""
        numbers = [self.grown(one), self.grown(other)]
        before = all_told(self.vault)
        rows = differences(self.vault, *numbers)
        texts = [tuple([row[0]] + [number if number is None else shape_of(self.vault, number) for number in row[1:]])
                 for row in rows]
        self.assertEqual(texts, told)
        about = differences(self.vault, *reversed(numbers))
        self.assertEqual(about, [(path, second, first) for path, first, second in rows])
        self.assertEqual(all_told(self.vault), before)

    def test_a_tree_beside_itself(self):
        for shape in small_shapes():
            self.differ(shape, shape, [])

    def test_on_one_side_only(self):
        self.differ({"a": "x"}, {}, [("a", "x", None)])
        self.differ({}, {"a": "x"}, [("a", None, "x")])
        self.differ({"a": "x", "b": {"c": "y"}}, {"b": {}}, [("a", "x", None), ("b/c", "y", None)])

    def test_changed(self):
        self.differ({"a": "x", "b": "k"}, {"a": "y", "b": "k"}, [("a", "x", "y")])
        self.differ({"a": {"b": "x"}}, {"a": {"b": ""}}, [("a/b", "x", "")])

    def test_a_blob_where_the_other_has_a_folder(self):
        self.differ({"a": "x"}, {"a": {"b": "y", "c": "z"}}, [("a", "x", None), ("a/b", None, "y"), ("a/c", None, "z")])
        self.differ({"a": "x"}, {"a": {}}, [("a", "x", None)])
        self.differ({"a": {"b": "x"}}, {"a": "x"}, [("a", None, "x"), ("a/b", "x", None)])

    def test_empty_folders_are_no_difference(self):
        self.differ({"a": {}}, {}, [])
        self.differ({"a": {"b": {}}, "c": "x"}, {"c": "x", "d": {}}, [])

    def test_in_the_order_of_the_names(self):
        one = {"a": {"b": "1", "z": "1"}, "a-": "1", "a.": {"b": "1"}, "b": "1", "c": "k"}
        other = {"a": {"b": "2", "y": "2"}, "a-b": "2", "a.": {"b": "2", "c": "2"}, "a0": "2", "A": "2", "c": "k"}
        self.differ(one, other, [
            ("A", None, "2"), ("a/b", "1", "2"), ("a/y", None, "2"), ("a/z", "1", None), ("a-", "1", None),
            ("a-b", None, "2"), ("a./b", "1", "2"), ("a./c", None, "2"), ("a0", None, "2"), ("b", "1", None),
        ])

    def test_a_blob_a_folder_and_a_name_that_goes_on(self):
        told = [("a", "1", None), ("a/b", None, "2"), ("a-", "1", "2")]
        self.differ({"a": "1", "a-": "1"}, {"a": {"b": "2"}, "a-": "2"}, told)

    def test_the_number_0(self):
        self.assertEqual(self.grown("x"), 0)
        self.assertEqual(differences(self.vault, self.grown({"a": "x"}), self.grown({})), [("a", 0, None)])
        self.assertEqual(differences(self.vault, self.grown({}), self.grown({"a": "x"})), [("a", None, 0)])

    def test_thirty_deep(self):
        path = "/".join(["n"] * 30)
        self.differ(nested(path, "x"), nested(path, "y"), [(path, "x", "y")])

    def test_all_small_trees(self):
        for one, other in itertools.product(small_shapes(), repeat=2):
            self.differ(one, other, differences_by_the_words(one, other))

    def test_what_is_no_tree(self):
        vault = small_vault()
        before = all_told(vault)
        for number in ABSENT + (0, 2, 3, 4, 5, 6):
            self.assertIs(refusal_of(differences, vault, number, 1), NoObject, number)
            self.assertIs(refusal_of(differences, vault, 1, number), NoObject, number)
            self.assertIs(refusal_of(differences, vault, number, number), NoObject, number)
        self.assertEqual(all_told(vault), before)

    def test_told_is_a_new_list_of_tuples(self):
        one, other = self.grown({"a": "x", "b": "y"}), self.grown({"a": "y"})
        first = differences(self.vault, one, other)
        self.assertEqual([part.__class__ for part in [first] + first], [list, tuple, tuple])
        first.clear()
        self.assertEqual(len(differences(self.vault, one, other)), 2)


class TestHistoriesByPaths(Walking):
    def test_a_commit_s_tree_with_an_object_put_in(self):
        top = with_object(self.vault, self.grown({}), "src/main.py", self.grown("begin\n"))
        first = commit(self.vault, top, [], 1, "first")
        later = with_object(self.vault, top, "src/main.py", self.grown("go on\n"))
        commit(self.vault, later, [first], 2, "second")
        self.assertEqual(shape_of(self.vault, found_at(self.vault, top, "src/main.py")), "begin\n")
        told = [("src/main.py", self.grown("begin\n"), self.grown("go on\n"))]
        self.assertEqual(differences(self.vault, top, later), told)
