"""[5.1] and [5.2]: the lines of a pack, and a pack put into a vault."""

import itertools
import re
import unittest

from strata.errors import BadPack, NoObject, StrataError
from strata.packs import packed, unpacked
from strata.reaching import reached
from strata.vaults import Vault, blob, commit, text_of, tree
from tests.helper import ABSENT, all_told, grow, meaning_of, refusal_of, small_vault

SMALL_PACK = [
    "0 blob 2", "|one", "|", "1 tree a=0", "2 blob 1", "|", "3 blob 1", "|two",
    "4 commit 1 - 5", "|first", "5 commit 1 4 6", "|second", "6 commit 1 4,5 7", "|third",
]
NUMBER = "(?:0|[1-9][0-9]{0,14})"
BLOB = re.compile(f"({NUMBER}) blob ([1-9][0-9]{{0,14}})")
TREE = re.compile(f"({NUMBER}) tree((?: [A-Za-z0-9._-]{{1,12}}={NUMBER})*)")
COMMIT = re.compile(f"({NUMBER}) commit ({NUMBER}) (-|{NUMBER}(?:,{NUMBER})?) ({NUMBER})")


def is_shape(meaning):
    return isinstance(meaning, (str, dict))


def read_by_the_words(vault, lines, known):
    """What each number of a pack means, or the number of its first wrong line."""
    meanings = {}
    for number in known:
        there = 0 <= known[number] < vault.size()
        meanings[number] = meaning_of(vault, known[number]) if there else None
    place = 0
    while place < len(lines):
        first = [form.fullmatch(lines[place]) for form in (BLOB, TREE, COMMIT)]
        found = [match for match in first if match]
        if not found or int(found[0][1]) in meanings:
            return place + 1
        if first[0]:
            many = int(first[0][2])
            pieces = lines[place + 1:place + 1 + many]
            meaning = "\n".join([piece[1:] for piece in pieces])
        elif first[1]:
            many, pieces = 0, []
            meaning = tree_by_the_words(first[1][2].split(), meanings)
        else:
            many, pieces = 1, lines[place + 1:place + 2]
            meaning = commit_by_the_words(first[2], pieces, meanings)
        if meaning is None:
            return place + 1
        for step, piece in enumerate(pieces):
            if piece[:1] != "|":
                return place + 2 + step
        if len(pieces) < many:
            return len(lines) + 1
        meanings[int(found[0][1])] = meaning
        place += 1 + many
    return meanings


def tree_by_the_words(words, meanings):
    names = [word.split("=")[0] for word in words]
    below = [meanings.get(int(word.split("=")[1])) for word in words]
    if names != sorted(set(names)) or "." in names or ".." in names or not all(map(is_shape, below)):
        return None
    return dict(zip(names, below))


def commit_by_the_words(match, pieces, meanings):
    top = meanings.get(int(match[2]))
    parents = [meanings.get(int(word)) for word in match[3].split(",") if word != "-"]
    if not isinstance(top, dict) or any(not isinstance(parent, tuple) for parent in parents):
        return None
    if len(parents) == 2 and parents[0] == parents[1]:
        return None
    return (top, parents, int(match[4]), "".join(pieces)[1:])


class TestPacked(unittest.TestCase):
    def packs(self, vault, wanted, had, told):
        before = all_told(vault)
        self.assertEqual(packed(vault, wanted, had), told)
        self.assertEqual(all_told(vault), before)

    def test_texts(self):
        told = {
            "": ["|"], "a": ["|a"], "a\n": ["|a", "|"], "\n": ["|", "|"], "a\nb": ["|a", "|b"],
            "a\nb\n": ["|a", "|b", "|"], "a\n\nb": ["|a", "|", "|b"], "\n\n\n": ["|", "|", "|", "|"],
            "\na": ["|", "|a"], " a ": ["| a "], "|": ["||"], "|a\n|b": ["||a", "||b"], "0 blob 1": ["|0 blob 1"],
            "a\n\n\nb\n\n": ["|a", "|", "|", "|b", "|", "|"],
        }
        for text in told:
            vault = Vault()
            blob(vault, text)
            self.packs(vault, [0], [], [f"0 blob {len(told[text])}"] + told[text])

    def test_forty_lines_and_more(self):
        for many in (40, 41, 100):
            vault = Vault()
            blob(vault, "line\n" * many)
            self.packs(vault, [0], [], [f"0 blob {many + 1}"] + ["|line"] * many + ["|"])

    def test_trees(self):
        vault = Vault()
        blob(vault, "x")
        tree(vault, [])
        tree(vault, [("a", 0)])
        tree(vault, [("-", 1), ("B.c", 2), ("abcdefghijkl", 0), ("b", 0)])
        lines = ["0 blob 1", "|x", "1 tree", "2 tree a=0", "3 tree -=1 B.c=2 abcdefghijkl=0 b=0"]
        self.packs(vault, [3], [], lines)
        self.packs(vault, [1], [], ["1 tree"])
        self.packs(vault, [2], [], ["0 blob 1", "|x", "2 tree a=0"])

    def test_commits(self):
        vault = Vault()
        tree(vault, [])
        commit(vault, 0, [], 0, "")
        commit(vault, 0, [1], 10 ** 15 - 1, "a message, with  blanks ")
        commit(vault, 0, [2, 1], 20, "|")
        commit(vault, 0, [1, 2], 20, "-")
        self.packs(vault, [3, 4], [], [
            "0 tree", "1 commit 0 - 0", "|", "2 commit 0 1 999999999999999", "|a message, with  blanks ",
            "3 commit 0 2,1 20", "||", "4 commit 0 1,2 20", "|-",
        ])

    def test_all_of_a_vault(self):
        vault = small_vault()
        self.packs(vault, list(range(7)), [], SMALL_PACK)
        self.packs(vault, [6, 2, 3], [], SMALL_PACK)
        self.packs(vault, [3, 6, 2, 6, 0], [], SMALL_PACK)

    def test_just_what_the_wanted_reach_and_the_had_do_not(self):
        vault = small_vault()
        self.packs(vault, [6], [4], SMALL_PACK[10:])
        self.packs(vault, [6], [5], SMALL_PACK[12:])
        self.packs(vault, [6], [0], SMALL_PACK[3:4] + SMALL_PACK[8:])
        self.packs(vault, [4], [3, 2], SMALL_PACK[:4] + SMALL_PACK[8:10])
        self.packs(vault, [1, 3], [0], SMALL_PACK[3:4] + SMALL_PACK[6:8])

    def test_nothing_wanted(self):
        for had in ([], [0], [6], list(range(7))):
            self.packs(small_vault(), [], had, [])

    def test_all_of_it_had(self):
        vault = small_vault()
        self.packs(vault, [6], [6], [])
        self.packs(vault, [4, 5, 0, 1], [6], [])
        self.packs(vault, [2, 3], [3, 2, 2], [])

    def test_by_rising_numbers_of_more_than_one_figure(self):
        vault = Vault()
        for many in range(12):
            blob(vault, str(many))
        tree(vault, [("a", 11), ("b", 2), ("c", 10)])
        self.packs(vault, [12], [], ["2 blob 1", "|2", "10 blob 1", "|10", "11 blob 1", "|11", "12 tree a=11 b=2 c=10"])

    def test_all_small_wants(self):
        vault = small_vault()
        firsts = {int(line.split()[0]): line for line in SMALL_PACK if not line.startswith("|")}
        rows = [list(row) for many in range(3) for row in itertools.combinations(range(7), many)]
        for wanted, had in itertools.product(rows, repeat=2):
            numbers = sorted(set(reached(vault, wanted)) - set(reached(vault, had)))
            lines = packed(vault, wanted, had)
            self.assertEqual([line for line in lines if line[0] != "|"], [firsts[number] for number in numbers])

    def test_numbers_without_an_object(self):
        vault = small_vault()
        before = all_told(vault)
        for number in ABSENT:
            for rows in (([number], []), ([], [number]), ([6], [number]), ([0, number], [6]), ([6], [6, number])):
                self.assertIs(refusal_of(packed, vault, *rows), NoObject, number)
        self.assertEqual(all_told(vault), before)
        self.assertIs(refusal_of(packed, Vault(), [0], []), NoObject)
        self.assertEqual(packed(Vault(), [], []), [])

    def test_nothing_is_changed_or_kept(self):
        vault = small_vault()
        wanted, had = [6, 3, 6], [4]
        packed(vault, wanted, had).clear()
        self.assertEqual((wanted, had), ([6, 3, 6], [4]))
        self.assertIsInstance(packed(vault, wanted, had), list)
        self.assertEqual(packed(vault, wanted, had), SMALL_PACK[6:8] + SMALL_PACK[10:])


class TestUnpacked(unittest.TestCase):
    def test_into_an_empty_vault(self):
        vault = Vault()
        self.assertEqual(unpacked(vault, SMALL_PACK, {}), {number: number for number in range(7)})
        self.assertEqual(all_told(vault), all_told(small_vault()))

    def test_by_the_numbers_that_they_get_there(self):
        vault = Vault()
        blob(vault, "here")
        tree(vault, [])
        told = unpacked(vault, SMALL_PACK, {})
        self.assertEqual(told, {number: number + 2 for number in range(7)})
        self.assertEqual(all_told(vault)[2:], [
            ("blob", "one\n"), ("tree", [("a", 2)]), ("blob", ""), ("blob", "two"), ("commit", (3, [], 5, "first")),
            ("commit", (3, [6], 6, "second")), ("commit", (3, [6, 7], 7, "third")),
        ])

    def test_into_the_vault_that_it_came_from(self):
        vault = small_vault()
        before = all_told(vault)
        for wanted in ([6], [0], [1, 3], list(range(7))):
            told = unpacked(vault, packed(vault, wanted, []), {})
            self.assertEqual(told, {number: number for number in reached(vault, wanted)})
        self.assertEqual(all_told(vault), before)

    def test_into_another_that_holds_some_of_it(self):
        vault = Vault()
        two, one = blob(vault, "two"), blob(vault, "one\n")
        top = tree(vault, [("a", one)])
        before = all_told(vault)
        told = unpacked(vault, SMALL_PACK, {})
        self.assertEqual(told, {0: one, 1: top, 2: 3, 3: two, 4: 4, 5: 5, 6: 6})
        self.assertEqual(all_told(vault)[:3], before)
        self.assertEqual(vault.size(), 7)

    def test_put_once_more(self):
        vault = Vault()
        first = unpacked(vault, SMALL_PACK, {})
        before = all_told(vault)
        self.assertEqual(unpacked(vault, SMALL_PACK, {}), first)
        self.assertEqual(all_told(vault), before)

    def test_what_was_carried_first_is_known_to_a_second_pack(self):
        here, there = small_vault(), Vault()
        blob(there, "apart")
        first = unpacked(there, packed(here, [4], []), {})
        self.assertEqual(first, {0: 1, 1: 2, 4: 3})
        second = unpacked(there, packed(here, [6], [4]), first)
        self.assertEqual(second, {0: 1, 1: 2, 4: 3, 5: 4, 6: 5})
        self.assertEqual(first, {0: 1, 1: 2, 4: 3})
        third = unpacked(there, packed(here, [2, 3], [6]), second)
        self.assertEqual(third, {**second, 2: 6, 3: 7})
        self.assertEqual(meaning_of(there, third[6]), meaning_of(here, 6))

    def test_the_empty_pack(self):
        vault = small_vault()
        before = all_told(vault)
        self.assertEqual(unpacked(vault, [], {}), {})
        known = {3: 1, 10 ** 14: 2, -1: 0}
        told = unpacked(vault, [], known)
        self.assertEqual(told, known)
        self.assertIsNot(told, known)
        self.assertEqual(all_told(vault), before)

    def test_known_numbers_that_nothing_names(self):
        vault = Vault()
        self.assertEqual(unpacked(vault, ["5 blob 1", "|x"], {7: 3, -2: 0}), {7: 3, -2: 0, 5: 0})

    def test_what_is_handed_in_stays(self):
        lines, known = SMALL_PACK[8:], {1: 1, 9: 0}
        vault = small_vault()
        told = unpacked(vault, lines, known)
        self.assertEqual((lines, known), (SMALL_PACK[8:], {1: 1, 9: 0}))
        told.clear()
        self.assertEqual(known, {1: 1, 9: 0})
        told = unpacked(vault, lines, known)
        known.clear()
        lines.clear()
        self.assertEqual(told, {1: 1, 9: 0, 4: 4, 5: 5, 6: 6})

    def test_numbers_need_not_rise(self):
        vault = Vault()
        most = "999999999999999"
        lines = [f"{most} blob 1", "|x", f"7 tree a={most}", "0 commit 7 - 0", "|m", "3 commit 7 0 1", "|"]
        self.assertEqual(unpacked(vault, lines, {}), {10 ** 15 - 1: 0, 7: 1, 0: 2, 3: 3})
        self.assertEqual(all_told(vault), [
            ("blob", "x"), ("tree", [("a", 0)]), ("commit", (1, [], 0, "m")), ("commit", (1, [2], 1, "")),
        ])

    def test_two_numbers_of_one_object(self):
        vault = Vault()
        told = unpacked(vault, ["3 blob 1", "|x", "5 blob 1", "|x", "7 tree a=3 b=5"], {})
        self.assertEqual(told, {3: 0, 5: 0, 7: 1})
        self.assertEqual(vault.size(), 2)

    def test_two_known_numbers_of_one_object(self):
        vault = small_vault()
        told = unpacked(vault, ["0 tree a=10 b=11"], {10: 3, 11: 3})
        self.assertEqual(told, {10: 3, 11: 3, 0: 7})

    def test_pieces_that_look_like_first_lines(self):
        vault = Vault()
        unpacked(vault, ["0 blob 3", "|1 tree", "||", "|2 blob 1"], {})
        self.assertEqual(text_of(vault, 0), "1 tree\n|\n2 blob 1")

    def test_packed_and_unpacked_again(self):
        texts = ("", "\n", "a", "a\n", "a\nb", "a\n\n\nb\n", " ", "|\n|", "line\n" * 45)
        here = Vault()
        top = grow(here, {"f": {str(place): text for place, text in enumerate(texts)}, "e": {}, "g": {"h": {"i": "x"}}})
        first = commit(here, top, [], 0, "")
        second = commit(here, grow(here, {}), [first], 10 ** 15 - 1, " m ")
        third = commit(here, grow(here, {"a": ""}), [], 3, "|x")
        last = commit(here, top, [third, second], 3, "-")
        for start in range(3):
            there = Vault()
            for place in range(start):
                blob(there, texts[place])
            told = unpacked(there, packed(here, [last], []), {})
            self.assertEqual(sorted(told), reached(here, [last]))
            for number in told:
                self.assertEqual(meaning_of(there, told[number]), meaning_of(here, number))

    def test_just_what_is_in_the_pack_is_put(self):
        here = small_vault()
        for wanted in ([6], [1], [3, 4], [0]):
            there = Vault()
            told = unpacked(there, packed(here, wanted, []), {})
            self.assertEqual(sorted(told.values()), list(range(there.size())))
            self.assertEqual(there.size(), len(reached(here, wanted)))

    def test_the_vaults_are_apart_behind_it(self):
        here, there = small_vault(), Vault()
        unpacked(there, packed(here, [6], []), {})
        before = all_told(here)
        blob(there, "more")
        self.assertEqual(all_told(here), before)
        self.assertEqual(there.size(), 6)
        self.assertEqual(blob(there, "more"), 5)

    def test_told_is_a_dict(self):
        self.assertIs(unpacked(Vault(), SMALL_PACK, {}).__class__, dict)


class Refusing(unittest.TestCase):
    def wrong(self, line, lines, known=None, vault=None):
        """The number of the line comes, and what was handed in is as it was."""
        known = {} if known is None else known
        vault = small_vault() if vault is None else vault
        before = all_told(vault), list(lines), dict(known)
        with self.assertRaises(StrataError, msg=lines) as caught:
            unpacked(vault, lines, known)
        self.assertIs(caught.exception.__class__, BadPack, lines)
        self.assertEqual(caught.exception.line, line, lines)
        self.assertEqual((all_told(vault), lines, known), before)
        self.assertEqual(blob(vault, "the next one"), len(before[0]))

    def wrong_behind(self, line, known=None):
        """Wrong as the first line, and behind objects that are right, which are not put then."""
        self.wrong(1, [line], known)
        self.wrong(1, [line, "|"], known)
        self.wrong(3, ["90 blob 1", "|new", line, "|"], known)
        self.wrong(4, ["90 blob 1", "|new", "91 tree new=90", line, "|", "|"], known)


class TestFirstLines(Refusing):
    def test_words_that_lack(self):
        for line in ("", "7", "7 blob", "blob", "tree", "commit", "blob 1", "7 commit", "7 commit 1", "7 commit 1 -",
                     "7 commit - 5", "commit 1 - 5", "tree a=0", "1", "|", "|x", "7 1"):
            self.wrong_behind(line, {0: 0, 1: 1})

    def test_words_too_many(self):
        for line in ("7 blob 1 1", "7 blob 1 x", "7 8 blob 1", "7 commit 1 - 5 m", "7 commit 1 - 5 0",
                     "7 commit 1 - - 5", "7 commit 1 4 5 6", "7 tree a=0 0", "7 tree 0", "7 tree a", "7 tree a=0 b"):
            self.wrong_behind(line, {0: 0, 1: 1, 4: 4, 5: 5})

    def test_blanks_too_many(self):
        for line in (" 7 blob 1", "7  blob 1", "7 blob  1", "7 blob 1 ", " 7 tree", "7  tree", "7 tree ",
                     "7 tree  a=0", "7 tree a=0 ", "7 tree a=0  b=0", "7 tree a= 0", "7 tree a =0", "7 commit  1 - 5",
                     "7 commit 1  - 5", "7 commit 1 -  5", "7 commit 1 - 5 ", " 7 commit 1 - 5", "7 commit 1 4, 5 6",
                     " ", "  ", "7 "):
            self.wrong_behind(line, {0: 0, 1: 1, 4: 4, 5: 5})

    def test_other_kinds(self):
        for line in ("7 Blob 1", "7 BLOB 1", "7 blobs 1", "7 text 1", "7 tre", "7 trees", "7 Tree a=0",
                     "7 commits 1 - 5", "7 comit 1 - 5", "7 0", "7 - 1", "7 blob1", "7tree", "7blob 1", "7 tree=0",
                     "7 |"):
            self.wrong_behind(line, {0: 0, 1: 1})

    def test_many_0(self):
        self.wrong_behind("7 blob 0")
        self.wrong(1, ["7 blob 0"], vault=Vault())

    def test_what_is_no_number(self):
        words = ("", "00", "01", "007", "0000000000000001", "1000000000000000", "9999999999999999", "+1", "-1", "-0",
                 "+0", "1.0", "1e1", "0x1", "1_0", "one", "a", "1a", "a1", "-", ",", "1,", "|", "1|", "\u0661",
                 "\u00b9", "1" * 16, "0" * 15, "1" * 5000)
        for word in words:
            known = {0: 0, 1: 1, 4: 4, 5: 5, 7: 2}
            self.wrong_behind(f"{word} blob 1", known)
            self.wrong_behind(f"{word} tree", known)
            self.wrong_behind(f"{word} commit 1 - 5", known)
            self.wrong_behind(f"8 blob {word}", known)
            self.wrong_behind(f"8 tree a={word}", known)
            self.wrong_behind(f"8 tree a=0 b={word}", known)
            self.wrong_behind(f"8 commit {word} - 5", known)
            self.wrong_behind(f"8 commit 1 4,{word} 5", known)
            self.wrong_behind(f"8 commit 1 {word},4 5", known)
            self.wrong_behind(f"8 commit 1 - {word}", known)
            self.wrong_behind(f"8 commit 1 4 {word}", known)
            if word != "-":
                self.wrong_behind(f"8 commit 1 {word} 5", known)

    def test_each_sign_that_is_no_figure(self):
        for sign in [chr(number) for number in range(32, 127) if not 48 <= number <= 57]:
            for word in (sign, "1" + sign, sign + "1", "1" + sign + "1"):
                self.wrong(1, [f"{word} blob 1", "|"])
                self.wrong(1, [f"8 blob {word}", "|"])

    def test_numbers_of_fifteen_figures_are_right(self):
        most = "9" * 15
        vault = small_vault()
        told = unpacked(vault, [f"{most} tree a=0", f"1 commit {most} - {most}", "|m"], {0: 0})
        self.assertEqual(told, {0: 0, 10 ** 15 - 1: 1, 1: 7})
        self.assertEqual(all_told(vault)[7:], [("commit", (1, [], 10 ** 15 - 1, "m"))])

    def test_parents(self):
        known = {1: 1, 4: 4, 5: 5, 6: 6}
        for word in (",", "4,", ",4", "4,,5", "-,4", "4,-", "-,-", "--", "4;5", "4.5", "4,5,", ",4,5", "4-5"):
            self.wrong_behind(f"8 commit 1 {word} 5", known)

    def test_entries(self):
        for word in ("a", "a=", "=0", "=", "a==0", "a=0=0", "a:0", "a=0,b=0", "0=a", "a=b", "a=-", "a=0|"):
            self.wrong_behind(f"8 tree {word}", {0: 0})
            self.wrong_behind(f"8 tree A=0 {word}", {0: 0})


class TestNumbers(Refusing):
    def test_a_number_told_ahead(self):
        for line in ("0 blob 1", "0 tree", "0 tree a=0", "0 commit 1 - 5"):
            self.wrong(3, ["0 blob 1", "|x", line, "|"], {1: 1})
            self.wrong(4, ["0 blob 1", "|x", "2 tree a=0", line, "|"], {1: 1})
        self.wrong(9, SMALL_PACK[:8] + SMALL_PACK[:8])
        self.wrong(15, SMALL_PACK + SMALL_PACK)
        self.wrong(15, SMALL_PACK + ["6 commit 1 4,5 7", "|third"])

    def test_a_number_that_is_known(self):
        for line in ("3 blob 1", "3 tree", "3 tree a=3", "3 commit 1 - 5"):
            self.wrong(1, [line, "|"], {1: 1, 3: 0})
            self.wrong(3, ["0 blob 1", "|x", line, "|"], {1: 1, 3: 0})
            self.wrong(1, [line, "|"], {1: 1, 3: 99})
        for number in range(7):
            places = [place for place, line in enumerate(SMALL_PACK) if line.startswith(f"{number} ")]
            self.wrong(places[0] + 1, list(SMALL_PACK), {number: 3})

    def test_the_same_object_under_its_known_number(self):
        self.wrong(1, ["0 blob 2", "|one", "|"], {0: 0})

    def test_a_number_that_neither_was_nor_is(self):
        for line in ("8 tree a=2", "8 tree a=0 b=2", "8 tree a=2 b=0", "8 commit 2 - 5", "8 commit 1 2 5",
                     "8 commit 1 4,2 5", "8 commit 1 2,4 5", "8 tree a=8", "8 commit 8 - 5", "8 commit 1 8 5"):
            self.wrong_behind(line, {0: 0, 1: 1, 4: 4})

    def test_numbers_of_the_vault_itself_are_not_known(self):
        self.wrong(1, ["8 tree a=0"])
        self.wrong(1, ["8 commit 1 - 5", "|m"])
        self.wrong(1, ["8 tree a=0"], {10: 0})

    def test_a_number_that_comes_later(self):
        self.wrong(1, ["1 tree a=0", "0 blob 1", "|x"])
        self.wrong(2, ["1 tree", "3 commit 1 2 5", "|m", "2 commit 1 - 4", "|m"])

    def test_a_pack_whose_had_is_not_known(self):
        here = small_vault()
        self.wrong(1, packed(here, [6], [4]))
        self.wrong(1, packed(here, [6], [4]), {4: 4})
        self.wrong(1, packed(here, [6], [4]), {1: 1})
        self.wrong(1, packed(here, [1], [0]), {1: 1})


class TestObjects(Refusing):
    def test_names_that_are_none(self):
        for name in ("", ".", "..", "abcdefghijklm", "a/b", "a,b", "~", "|", "a:", "\u00e9"):
            self.wrong_behind(f"8 tree {name}=0", {0: 0})

    def test_names_that_do_not_rise(self):
        for names in ("aa", "ba", "aA", "a0", ["aa", "a"], ["a", "b", "b"], ["a", "c", "b"], ["9", "10"]):
            words = " ".join([f"{name}=0" for name in names])
            self.wrong_behind(f"8 tree {words}", {0: 0})

    def test_an_entry_that_names_a_commit(self):
        self.wrong_behind("8 tree a=4", {4: 4})
        self.wrong_behind("8 tree a=0 b=4", {0: 0, 4: 4})
        self.wrong(4, ["1 tree", "4 commit 1 - 5", "|m", "8 tree a=4"])

    def test_known_numbers_without_an_object(self):
        for number in ABSENT:
            known = {0: number, 1: 1, 4: 4}
            for line in ("9 tree a=0", "9 tree a=1 b=0", "9 commit 0 - 5", "9 commit 1 0 5", "9 commit 1 4,0 5"):
                self.wrong(1, [line, "|"], known)
                # Nothing new is put ahead of the line, which could take the number.
                self.wrong(4, ["90 blob 2", "|one", "|", line, "|"], known)

    def test_a_commit_s_tree_that_is_none(self):
        for number in (0, 4):
            self.wrong_behind("8 commit 1 - 5", {1: number})
        self.wrong(3, ["1 blob 1", "|x", "8 commit 1 - 5", "|m"])

    def test_a_parent_that_is_no_commit(self):
        for number in (0, 1):
            self.wrong_behind("8 commit 1 2 5", {1: 1, 2: number})
            self.wrong_behind("8 commit 1 4,2 5", {1: 1, 2: number, 4: 4})
            self.wrong_behind("8 commit 1 2,4 5", {1: 1, 2: number, 4: 4})

    def test_parents_alike(self):
        self.wrong_behind("8 commit 1 4,4 5", {1: 1, 4: 4})

    def test_parents_that_are_one_commit_under_two_numbers(self):
        self.wrong_behind("8 commit 1 4,5 5", {1: 1, 4: 4, 5: 4})
        self.wrong(6, ["1 tree", "4 commit 1 - 5", "|m", "5 commit 1 - 5", "|m", "8 commit 1 4,5 6", "|m"])

    def test_three_parents(self):
        self.wrong_behind("8 commit 1 4,5,6 5", {1: 1, 4: 4, 5: 5, 6: 6})

    def test_the_first_line_ahead_of_the_message(self):
        for word in ("4,4", "2", "4,5,6"):
            self.wrong(1, [f"8 commit 1 {word} 5"], {1: 1, 2: 0, 4: 4, 5: 5, 6: 6})
            self.wrong(1, [f"8 commit 1 {word} 5", "m"], {1: 1, 2: 0, 4: 4, 5: 5, 6: 6})


class TestBars(Refusing):
    def test_lines_that_do_not_begin_with_a_bar(self):
        for line in ("", "x", " |", "\\|", "0 blob 1", "-", "x|"):
            self.wrong(2, ["0 blob 1", line])
            self.wrong(2, ["0 blob 2", line, "|"])
            self.wrong(3, ["0 blob 2", "|", line])
            self.wrong(2, ["0 blob 3", line, line, line])
            self.wrong(3, ["1 tree", "4 commit 1 - 5", line])
            self.wrong(5, ["0 blob 1", "|x", "1 tree a=0", "4 commit 1 - 5", line, "|m"])

    def test_lines_that_lack(self):
        self.wrong(2, ["0 blob 1"])
        self.wrong(2, ["0 blob 2"])
        self.wrong(3, ["0 blob 2", "|x"])
        self.wrong(4, ["0 blob 9", "|x", "|y"])
        self.wrong(3, ["1 tree", "4 commit 1 - 5"])
        self.wrong(5, ["0 blob 1", "|x", "1 tree a=0", "4 commit 1 - 5"])

    def test_very_many_lines_that_lack(self):
        self.wrong(3, ["0 blob 999999999999999", "|x"])
        self.wrong(3, ["0 blob 999999999999999", "|x", "1 tree"])

    def test_a_line_too_many(self):
        self.wrong(3, ["0 blob 1", "|", "|"])
        self.wrong(2, ["0 tree", "|"])
        self.wrong(4, ["1 tree", "4 commit 1 - 5", "|m", "|m"])

    def test_each_line_taken_away_at_the_end(self):
        for many in range(len(SMALL_PACK)):
            told = read_by_the_words(Vault(), SMALL_PACK[:many], {})
            if isinstance(told, int):
                self.wrong(many + 1, SMALL_PACK[:many])
            else:
                self.assertEqual(len(unpacked(Vault(), SMALL_PACK[:many], {})), len(told))


class TestAllSmallFaults(unittest.TestCase):
    OTHERS = (
        "", "|", "x", "7 blob 1", "7 blob 2", "7 tree", "7 tree a=0", "7 tree a=0 b=1", "7 tree b=0 a=1", "7 tree a=4",
        "7 commit 1 - 5", "7 commit 1 4 5", "7 commit 1 4,5 5", "7 commit 1 5,4 5", "7 commit 1 4,4 5",
        "7 commit 0 - 5", "7 commit 1 1 5", "7 commit 20 21 5", "7 tree a=20 b=22", "7 tree a=21", "7 tree a=23",
        "7 commit 1 21,24 5", "0 blob 1", "0 tree", "1 tree", "1 tree a=2", "4 commit 1 - 6", "5 commit 1 - 5",
        "20 tree", "3 blob 3",
    )
    # A tree, a commit, a blob, a number without an object, and the same commit once more.
    KNOWN = {20: 1, 21: 4, 22: 0, 23: 70, 24: 4}

    def agrees(self, lines, known):
        vault = small_vault()
        before = all_told(vault)
        words = read_by_the_words(vault, lines, known)
        try:
            told = unpacked(vault, lines, known)
        except BadPack as refusal:
            self.assertEqual(refusal.line, words, lines)
            self.assertEqual(all_told(vault), before)
            return
        self.assertIsInstance(words, dict, lines)
        self.assertEqual(set(told), set(words))
        self.assertTrue(all(told[number] == known[number] for number in known))
        for number in words:
            if words[number] is not None:
                self.assertEqual(meaning_of(vault, told[number]), words[number], lines)

    def test_one_line_in_the_place_of_another(self):
        for place, other in itertools.product(range(len(SMALL_PACK)), self.OTHERS):
            for known in ({}, self.KNOWN):
                self.agrees(SMALL_PACK[:place] + [other] + SMALL_PACK[place + 1:], known)

    def test_one_line_put_in(self):
        for place, other in itertools.product(range(len(SMALL_PACK) + 1), self.OTHERS):
            self.agrees(SMALL_PACK[:place] + [other] + SMALL_PACK[place:], self.KNOWN)

    def test_lines_taken_out_and_turned(self):
        for first, second in itertools.combinations(range(len(SMALL_PACK) + 1), 2):
            self.agrees(SMALL_PACK[:first] + SMALL_PACK[second:], {})
            turned = SMALL_PACK[first:second][::-1]
            self.agrees(SMALL_PACK[:first] + turned + SMALL_PACK[second:], {})

    def test_one_sign_taken_out_or_put_in(self):
        for place, line in enumerate(SMALL_PACK):
            for at, sign in itertools.product(range(len(line) + 1), ("", " ", "0", "1", "-", ",", "=", "|", "a")):
                for skipped in (0, 1):
                    changed = line[:at] + sign + line[at + skipped:]
                    self.agrees(SMALL_PACK[:place] + [changed] + SMALL_PACK[place + 1:], {})

    def test_two_lines_alone(self):
        for lines in itertools.product(self.OTHERS, repeat=2):
            self.agrees(list(lines), {**self.KNOWN, 0: 0, 1: 1, 4: 4, 5: 5})
