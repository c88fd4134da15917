"""[0.1] to [0.3] over the whole program: what is handed in, what numbers stand for, merges, what is carried over."""

import importlib
import inspect
import itertools
import unittest

from strata.lines import lines_of, paired, runs, turned
from strata.merging import merged, merged_trees
from strata.packs import packed, unpacked
from strata.reaching import ancestors, best_common, history, reached
from strata.vaults import Vault, blob, commit, commit_of, entries_of, text_of, tree
from strata.walking import differences, files, found_at, with_object
from tests.helper import all_told, grow, meaning_of, shape_of

INTERFACE = {
    "vaults": {
        "blob": ["vault", "text"], "tree": ["vault", "entries"], "text_of": ["vault", "number"],
        "commit": ["vault", "top", "parents", "time", "message"], "entries_of": ["vault", "number"],
        "commit_of": ["vault", "number"],
    },
    "reaching": {
        "reached": ["vault", "numbers"], "ancestors": ["vault", "number"], "best_common": ["vault", "one", "other"],
        "history": ["vault", "number"],
    },
    "lines": {
        "lines_of": ["text"], "paired": ["one", "other"], "runs": ["one", "other"], "turned": ["one", "other", "told"],
    },
    "texts": {"merged_text": ["base", "ours", "theirs"]},
    "merging": {"merged_trees": ["vault", "base", "ours", "theirs"], "merged": ["vault", "ours", "theirs"]},
    "walking": {
        "found_at": ["vault", "top", "path"], "with_object": ["vault", "top", "path", "number"],
        "files": ["vault", "top", "path"], "differences": ["vault", "one", "other"],
    },
    "packs": {"packed": ["vault", "wanted", "had"], "unpacked": ["vault", "lines", "known"]},
}
# Base, ours and theirs: changed apart, alike, not alike, taken out, put in, made the other kind, several deep.
HISTORIES = (
    ({"a": "1\n2\n3\n"}, {"a": "x\n2\n3\n"}, {"a": "1\n2\ny\n"}),
    ({"a": "1\n"}, {"a": "2\n", "b": ""}, {"a": "3\n", "c": {"d": "new"}}),
    ({"a": {"b": "1", "c": "2"}, "k": "0"}, {"a": {"b": "1"}, "k": "0"}, {"a": {"c": "2"}, "k": "9"}),
    ({"a": "1", "b": {"c": "2"}}, {"b": {"c": "3"}}, {"a": "4", "b": "5"}),
    ({"a": {"b": {"c": "1\n", "d": "1\n"}}}, {"a": {"b": {"c": "2\n", "d": "1\n"}}}, {"a": {"b": {"c": "3\n"}, "e": {}}}),
    ({}, {"a": {"b": "1"}, "a-b": "1"}, {"a": {"b": "2"}, "a-b": "2"}),
    ({"a": "1"}, {}, {"a": "1"}),
    ({"a": "1\n" * 40}, {"a": "2\n" + "1\n" * 39}, {"a": "1\n" * 40 + "3"}),
)


def forked(vault, base, ours, theirs):
    """A history that forks behind its second commit, and the two ends of it."""
    first = commit(vault, grow(vault, {"begin": "0\n"}), [], 1, "begin")
    second = commit(vault, grow(vault, base), [first], 2, "base")
    one = commit(vault, grow(vault, ours), [second], 3, "ours")
    other = commit(vault, grow(vault, theirs), [second], 4, "theirs")
    return one, other


def crossed(vault, base, ours, theirs):
    """Two ends that have two best common ancestors, of unlike times."""
    first = commit(vault, grow(vault, base), [], 1, "one root")
    second = commit(vault, grow(vault, ours), [], 2, "another root")
    one = commit(vault, grow(vault, ours), [first, second], 3, "ours")
    other = commit(vault, grow(vault, theirs), [second, first], 4, "theirs")
    return one, other


def without_common(vault, base, ours, theirs):
    """Two ends of two histories that have no commit in common."""
    first = commit(vault, grow(vault, base), [], 1, "base")
    one = commit(vault, grow(vault, ours), [first], 3, "ours")
    return one, commit(vault, grow(vault, theirs), [], 4, "theirs")


def texts_at(vault, top):
    return [(path, text_of(vault, number)) for path, number in files(vault, top, "")]


def occupied_vault():
    """A vault with objects of its own, some of them like those that are carried over, under other numbers."""
    vault = Vault()
    grow(vault, {"z": "apart\n", "a": {"b": "1"}})
    grow(vault, {"a": "1\n2\n3\n", "begin": "0\n"})
    commit(vault, grow(vault, {}), [], 0, "apart")
    return vault


class TestInterface(unittest.TestCase):
    def test_names_and_arguments(self):
        for module in INTERFACE:
            found = importlib.import_module(f"strata.{module}")
            for name in INTERFACE[module]:
                signature = inspect.signature(getattr(found, name))
                self.assertEqual(list(signature.parameters), INTERFACE[module][name], name)

    def test_a_vault_and_what_it_tells(self):
        self.assertEqual(list(inspect.signature(Vault).parameters), [])
        self.assertEqual(list(inspect.signature(Vault().size).parameters), [])
        self.assertEqual(list(inspect.signature(Vault().kind).parameters), ["number"])


class TestCarriedOver(unittest.TestCase):
    def carried(self, here, there, ends):
        """Both ends are carried over, the second by what is had and known then; what they are there."""
        first = unpacked(there, packed(here, [ends[0]], []), {})
        second = unpacked(there, packed(here, [ends[1]], [ends[0]]), first)
        self.assertEqual(sorted(second), reached(here, list(ends)))
        return second

    def same_when_merged(self, here, there, ends, told):
        number, conflicts = merged(here, *ends)
        number_there, conflicts_there = merged(there, *[told[end] for end in ends])
        self.assertEqual(texts_at(there, number_there), texts_at(here, number))
        self.assertEqual(shape_of(there, number_there), shape_of(here, number))
        self.assertEqual(conflicts_there, conflicts)

    def test_merged_there_as_here(self):
        for shapes, grown in itertools.product(HISTORIES, (forked, crossed, without_common)):
            here = Vault()
            ends = grown(here, *shapes)
            for there in (Vault(), occupied_vault()):
                told = self.carried(here, there, ends)
                self.same_when_merged(here, there, ends, told)
                self.same_when_merged(here, there, ends[::-1], told)

    def test_each_number_means_the_same_there(self):
        for shapes, grown in itertools.product(HISTORIES, (forked, crossed, without_common)):
            here, there = Vault(), occupied_vault()
            told = self.carried(here, there, grown(here, *shapes))
            for number in told:
                self.assertEqual(meaning_of(there, told[number]), meaning_of(here, number))
                below = [told[other] for other in reached(here, [number])]
                self.assertEqual(reached(there, [told[number]]), sorted(set(below)))

    def test_a_merge_carried_back(self):
        for shapes in HISTORIES:
            here, there = Vault(), occupied_vault()
            ends = forked(here, *shapes)
            told = self.carried(here, there, ends)
            ends_there = [told[end] for end in ends]
            top, conflicts = merged(there, *ends_there)
            joint = commit(there, top, ends_there, 5, "merged there")
            back = {told[number]: number for number in told}
            again = unpacked(here, packed(there, [joint], ends_there), back)
            self.assertEqual(commit_of(here, again[joint])[1:], (list(ends), 5, "merged there"))
            self.assertEqual(commit_of(here, again[joint])[0], merged(here, *ends)[0])
            self.assertEqual(best_common(here, again[joint], ends[0]), ends[0])

    def test_a_carried_history_is_told_alike(self):
        here, there = Vault(), occupied_vault()
        ends = crossed(here, *HISTORIES[1])
        told = self.carried(here, there, ends)
        for end in ends:
            self.assertEqual(history(there, told[end]), [told[number] for number in history(here, end)])
            self.assertEqual(ancestors(there, told[end]), sorted([told[number] for number in ancestors(here, end)]))
        tops = [commit_of(here, end)[0] for end in ends]
        rows = differences(here, *tops)
        self.assertEqual(differences(there, *[told[top] for top in tops]), [
            (path, told.get(one), told.get(other)) for path, one, other in rows
        ])

    def test_a_long_history(self):
        here, there = Vault(), occupied_vault()
        number = commit(here, grow(here, {"a": "0\n"}), [], 0, "begin")
        for time in range(1, 1500):
            number = commit(here, grow(here, {"a": f"{time}\n"}), [number], time, "go on")
        told = unpacked(there, packed(here, [number], []), {})
        self.assertEqual(history(there, told[number]), [told[other] for other in history(here, number)])
        self.assertEqual(len(told), here.size())
        first = history(here, number)[-1]
        self.assertEqual(merged(there, told[first], told[number]), (told[commit_of(here, number)[0]], []))

    def test_nothing_but_what_was_reached_is_carried(self):
        here, there = Vault(), Vault()
        blob(here, "secret")
        commit(here, grow(here, {"s": "secret"}), [], 9, "apart")
        ends = forked(here, *HISTORIES[0])
        self.carried(here, there, ends)
        self.assertEqual(there.size(), len(reached(here, list(ends))))
        self.assertNotIn(("blob", "secret"), all_told(there))


class TestMerges(unittest.TestCase):
    def test_what_one_side_alone_changed_is_held(self):
        for base, ours, theirs in HISTORIES:
            vault = Vault()
            numbers = [grow(vault, shape) for shape in (base, ours, theirs)]
            number, conflicts = merged_trees(vault, *numbers)
            rows = [dict(files(vault, top, "")) for top in numbers]
            told = dict(files(vault, number, ""))
            clear = [path for path in {**rows[0], **rows[1], **rows[2]} if not any(
                path == other or path.startswith(other + "/") or other.startswith(path + "/") for other in conflicts
            )]
            for path in clear:
                b, o, t = [row.get(path) for row in rows]
                if t == b:
                    self.assertEqual(told.get(path), o, path)
                elif o == b:
                    self.assertEqual(told.get(path), t, path)

    def test_each_conflict_is_at_something_that_both_changed(self):
        for base, ours, theirs in HISTORIES:
            vault = Vault()
            numbers = [grow(vault, shape) for shape in (base, ours, theirs)]
            number, conflicts = merged_trees(vault, *numbers)
            changed = [[row[0] for row in differences(vault, numbers[0], side)] for side in numbers[1:]]
            for path in conflicts:
                self.assertGreaterEqual(found_at(vault, number, path), 0)
                for paths in changed:
                    self.assertTrue(any(other == path or other.startswith(path + "/") for other in paths), path)


class TestForEver(unittest.TestCase):
    def test_numbers_stand_for_one_content_whatever_is_done(self):
        vault = Vault()
        for shapes, grown in itertools.product(HISTORIES, (forked, crossed, without_common)):
            before = all_told(vault)
            ends = grown(vault, *shapes)
            top = merged(vault, *ends)[0]
            joint = commit(vault, top, list(ends), 9, "both")
            with_object(vault, top, "a/b/c/d", blob(vault, "more"))
            with_object(vault, top, "a", None)
            known = {number: number for number in reached(vault, [ends[0]])}
            self.assertEqual(unpacked(vault, packed(vault, [joint], [ends[0]]), known)[joint], joint)
            self.assertEqual(all_told(vault)[:len(before)], before)

    def test_the_same_done_twice_is_one(self):
        vault = Vault()
        ends = forked(vault, *HISTORIES[4])
        first = (merged(vault, *ends), with_object(vault, merged(vault, *ends)[0], "x/y", 0))
        size = vault.size()
        self.assertEqual(forked(vault, *HISTORIES[4]), ends)
        self.assertEqual((merged(vault, *ends), with_object(vault, merged(vault, *ends)[0], "x/y", 0)), first)
        self.assertEqual(vault.size(), size)

    def test_told_lists_may_be_changed_without_harm(self):
        vault = Vault()
        one, other = forked(vault, *HISTORIES[1])
        tops = [commit_of(vault, end)[0] for end in (one, other)]
        merged(vault, one, other)
        asked = (
            lambda: entries_of(vault, tops[0]), lambda: commit_of(vault, one)[1], lambda: reached(vault, [one]),
            lambda: ancestors(vault, one), lambda: history(vault, one), lambda: merged(vault, one, other)[1],
            lambda: merged_trees(vault, None, *tops)[1], lambda: files(vault, tops[1], "x"),
            lambda: differences(vault, *tops), lambda: packed(vault, [one, other], []), lambda: lines_of("a\nb\n"),
            lambda: paired(["a"], ["a"]), lambda: runs(["a"], ["b"]), lambda: turned(["a"], ["b"], [(0, 1, 0, 1)]),
        )
        before = all_told(vault)
        for ask in asked:
            told = ask()
            self.assertTrue(told)
            kept = list(told)
            told.clear()
            self.assertEqual(ask(), kept)
        self.assertEqual(all_told(vault), before)

    def test_a_vault_beside_another_is_left_alone(self):
        one, other = occupied_vault(), occupied_vault()
        before = all_told(other)
        ends = forked(one, *HISTORIES[3])
        merged(one, *ends)
        unpacked(one, packed(one, list(ends), []), {})
        tree(one, [("new", blob(one, "new"))])
        self.assertEqual(all_told(other), before)
