"""[2.1] and [2.2]: a text's lines, the walk and its pairs, runs, a row turned by its runs."""

import itertools
import unittest

from strata.lines import lines_of, paired, runs, turned


def is_within(part, row):
    """Whether the lines of a part stand in a row, in order, whatever stands between."""
    left = iter(row)
    return all(line in left for line in part)


def most_common(one, other):
    """C of two rows by its words: the most lines of the one that, in order, the other has too."""
    for many in range(len(one), 0, -1):
        if any(is_within(part, other) for part in itertools.combinations(one, many)):
            return many
    return 0


def walk_by_the_words(one, other):
    pairs = []
    i = k = 0
    while i < len(one) and k < len(other):
        if one[i] == other[k]:
            pairs.append((i, k))
            i, k = i + 1, k + 1
        elif most_common(one[i + 1:], other[k:]) >= most_common(one[i:], other[k + 1:]):
            i += 1
        else:
            k += 1
    return pairs


def runs_by_the_words(one, other):
    """Stretches without pairs, grown from each place to the next pair."""
    pairs = walk_by_the_words(one, other)
    told = []
    for i, k in [(-1, -1)] + pairs:
        many = others = 0
        while i + 1 + many < len(one) and i + 1 + many not in [pair[0] for pair in pairs]:
            many += 1
        while k + 1 + others < len(other) and k + 1 + others not in [pair[1] for pair in pairs]:
            others += 1
        if many + others > 0:
            told.append((i + 1, many, k + 1, others))
    return told


def rows(letters, longest):
    return [list(row) for many in range(longest + 1) for row in itertools.product(letters, repeat=many)]


def two_rows():
    """Rows of few lines that are often alike, each beside each, some with a line end lacking."""
    small = itertools.product(rows("ab", 4), repeat=2)
    wider = itertools.product(rows("abc", 3), repeat=2)
    ends = itertools.product(rows(["a\n", "a", "b\n"], 3), repeat=2)
    return itertools.chain(small, wider, ends)


class TestLinesOf(unittest.TestCase):
    def test_the_empty_text_has_no_lines(self):
        self.assertEqual(lines_of(""), [])

    def test_texts(self):
        told = {
            "a": ["a"],
            "a\n": ["a\n"],
            "\n": ["\n"],
            "\n\n": ["\n", "\n"],
            "\n\n\n\n": ["\n", "\n", "\n", "\n"],
            "a\nb": ["a\n", "b"],
            "a\nb\n": ["a\n", "b\n"],
            "a\n\n": ["a\n", "\n"],
            "a\n\nb": ["a\n", "\n", "b"],
            "\na": ["\n", "a"],
            "\n\na\n\n\nb\n\n": ["\n", "\n", "a\n", "\n", "\n", "b\n", "\n"],
            " ": [" "],
            " \n ": [" \n", " "],
            "a b\n c ": ["a b\n", " c "],
        }
        for text in told:
            with self.subTest(text=text):
                self.assertEqual(lines_of(text), told[text])

    def test_the_lines_put_together_are_the_text(self):
        for many in range(7):
            for signs in itertools.product("a \n", repeat=many):
                text = "".join(signs)
                lines = lines_of(text)
                self.assertEqual("".join(lines), text)
                self.assertNotIn("", lines)
                for line in lines[:-1]:
                    self.assertEqual(line.find("\n"), len(line) - 1, text)
                for line in lines[-1:]:
                    self.assertIn(line.find("\n"), (-1, len(line) - 1), text)

    def test_forty_lines_and_more(self):
        for many in (40, 41, 400):
            self.assertEqual(lines_of("line\n" * many), ["line\n"] * many)
            self.assertEqual(lines_of("line\n" * many + "end"), ["line\n"] * many + ["end"])

    def test_other_signs_split_nothing(self):
        for sign in ("\r", "\v", "\f", "\x1c", "\x1d", "\x1e", "\x85", "\u2028", "\u2029", "\t", "\\n", "|"):
            for text in (sign, "a" + sign + "b", sign + "b", "a" + sign, sign * 3):
                with self.subTest(text=ascii(text)):
                    self.assertEqual(lines_of(text), [text])
                    self.assertEqual(lines_of(text + "\n" + text), [text + "\n", text])
        self.assertEqual(lines_of("a\r\nb\r\n"), ["a\r\n", "b\r\n"])

    def test_told_is_a_new_list(self):
        first = lines_of("a\nb\n")
        first.clear()
        self.assertEqual(lines_of("a\nb\n"), ["a\n", "b\n"])
        self.assertIsInstance(lines_of(""), list)


class TestPaired(unittest.TestCase):
    def test_alike(self):
        for row in ([], ["a\n"], ["a\n", "b"], ["a\n"] * 5, ["a\n", "b\n", "a\n", "b\n"]):
            self.assertEqual(paired(row, list(row)), [(place, place) for place in range(len(row))])

    def test_without_a_common_line(self):
        self.assertEqual(paired(["a\n", "b\n"], ["c\n", "d\n", "e\n"]), [])
        self.assertEqual(paired(["a\n"], ["b\n"]), [])

    def test_empty_rows(self):
        self.assertEqual(paired([], []), [])
        self.assertEqual(paired([], ["a\n", "b\n"]), [])
        self.assertEqual(paired(["a\n", "b\n"], []), [])

    def test_a_line_without_its_line_end_is_another(self):
        self.assertEqual(paired(["a\n"], ["a"]), [])
        self.assertEqual(paired(["a"], ["a\n"]), [])
        self.assertEqual(paired(["a\n", "b"], ["a\n", "b\n"]), [(0, 0)])
        self.assertEqual(paired(["a\n", "a"], ["a"]), [(1, 0)])
        self.assertEqual(paired(["", "\n"], ["\n"]), [(1, 0)])

    def test_blanks_and_great_letters_count(self):
        self.assertEqual(paired(["a\n", "A\n", " a\n", "a \n"], ["A\n", "a \n"]), [(1, 0), (3, 1)])

    def test_one_goes_on_where_both_ways_have_as_many(self):
        # C(1, 0) and C(0, 1) are both 1: the one goes on, and b is paired, not a.
        self.assertEqual(paired(["a", "b"], ["b", "a"]), [(1, 0)])
        self.assertEqual(paired(["b", "a"], ["a", "b"]), [(1, 0)])
        self.assertEqual(paired(["a", "b", "c"], ["c", "b", "a"]), [(2, 0)])
        self.assertEqual(paired(["a", "b", "c", "d"], ["c", "d", "a", "b"]), [(2, 0), (3, 1)])

    def test_other_goes_on_where_that_has_more(self):
        self.assertEqual(paired(["a", "b"], ["b", "a", "b"]), [(0, 1), (1, 2)])
        self.assertEqual(paired(["a", "b", "c"], ["c", "a", "b"]), [(0, 1), (1, 2)])
        self.assertEqual(paired(["a"], ["x", "y", "a"]), [(0, 2)])

    def test_one_goes_on_where_that_has_more(self):
        self.assertEqual(paired(["c", "a", "b"], ["a", "b", "c"]), [(1, 0), (2, 1)])
        self.assertEqual(paired(["x", "y", "a"], ["a"]), [(2, 0)])

    def test_lines_many_times_alike(self):
        self.assertEqual(paired(["a"] * 3, ["a"] * 5), [(0, 0), (1, 1), (2, 2)])
        self.assertEqual(paired(["a"] * 5, ["a"] * 3), [(0, 0), (1, 1), (2, 2)])
        self.assertEqual(paired(list("abab"), list("baba")), [(1, 0), (2, 1), (3, 2)])
        self.assertEqual(paired(list("aabb"), list("abab")), [(0, 0), (2, 1), (3, 3)])
        self.assertEqual(paired(list("abcabba"), list("cbabac")), [(2, 0), (4, 1), (5, 3), (6, 4)])

    def test_the_walk_of_all_small_rows(self):
        for one, other in two_rows():
            self.assertEqual(paired(one, other), walk_by_the_words(one, other), (one, other))

    def test_as_many_pairs_as_lines_in_common(self):
        for one, other in two_rows():
            pairs = paired(one, other)
            self.assertEqual(len(pairs), most_common(one, other))
            self.assertTrue(all(one[i] == other[k] for i, k in pairs))

    def test_told_is_a_list_of_tuples(self):
        told = paired(["a", "b"], ["a", "c", "b"])
        self.assertIsInstance(told, list)
        for pair in told:
            self.assertIsInstance(pair, tuple)

    def test_nothing_handed_in_is_changed(self):
        one, other = ["a", "b", "c"], ["b", "x", "c"]
        paired(one, other)
        paired(one, one).clear()
        self.assertEqual((one, other), (["a", "b", "c"], ["b", "x", "c"]))

    def test_forty_lines_and_more(self):
        # No two alike but the last, and lines of two sorts only: both are slow where all ways are tried.
        for many in (40, 60, 300):
            one = [f"one {place}\n" for place in range(many)] + ["end\n"]
            other = [f"other {place}\n" for place in range(many)] + ["end\n"]
            self.assertEqual(paired(one, other), [(many, many)])
            first, second = ["a\n", "b\n"] * (many // 2), ["b\n", "a\n"] * (many // 2)
            self.assertEqual(paired(first, second), [(place + 1, place) for place in range(many - 1)])


class TestRuns(unittest.TestCase):
    def test_none_where_both_are_alike(self):
        for row in ([], ["a\n"], ["a\n", "b"], ["a\n"] * 4):
            self.assertEqual(runs(row, list(row)), [])

    def test_one_run_without_a_common_line(self):
        self.assertEqual(runs(["a", "b"], ["c", "d", "e"]), [(0, 2, 0, 3)])
        self.assertEqual(runs([], ["a", "b"]), [(0, 0, 0, 2)])
        self.assertEqual(runs(["a", "b"], []), [(0, 2, 0, 0)])

    def test_ahead_of_the_first_pair(self):
        self.assertEqual(runs(["x", "a"], ["a"]), [(0, 1, 0, 0)])
        self.assertEqual(runs(["a"], ["x", "y", "a"]), [(0, 0, 0, 2)])
        self.assertEqual(runs(["x", "a"], ["y", "z", "a"]), [(0, 1, 0, 2)])

    def test_between(self):
        self.assertEqual(runs(["a", "x", "b"], ["a", "b"]), [(1, 1, 1, 0)])
        self.assertEqual(runs(["a", "b"], ["a", "x", "y", "b"]), [(1, 0, 1, 2)])
        self.assertEqual(runs(["a", "w", "x", "b"], ["a", "y", "b"]), [(1, 2, 1, 1)])

    def test_behind_the_last(self):
        self.assertEqual(runs(["a", "x"], ["a"]), [(1, 1, 1, 0)])
        self.assertEqual(runs(["a"], ["a", "x", "y"]), [(1, 0, 1, 2)])
        self.assertEqual(runs(["a", "x"], ["a", "y", "z"]), [(1, 1, 1, 2)])

    def test_several(self):
        one = ["p", "a", "b", "q", "c", "r", "d"]
        other = ["a", "s", "b", "c", "t", "u", "d", "v"]
        self.assertEqual(runs(one, other), [(0, 1, 0, 0), (2, 0, 1, 1), (3, 1, 3, 0), (5, 1, 4, 2), (7, 0, 7, 1)])

    def test_a_line_end_that_lacks(self):
        self.assertEqual(runs(["a\n", "b"], ["a\n", "b\n"]), [(1, 1, 1, 1)])

    def test_the_runs_of_all_small_rows(self):
        for one, other in two_rows():
            told = runs(one, other)
            self.assertEqual(told, runs_by_the_words(one, other), (one, other))
            self.assertTrue(all(run[1] + run[3] > 0 for run in told))

    def test_told_is_a_list_of_tuples(self):
        told = runs(["a", "b"], ["c", "b", "d"])
        self.assertIsInstance(told, list)
        for run in told:
            self.assertIsInstance(run, tuple)

    def test_nothing_handed_in_is_changed(self):
        one, other = ["a", "b", "c"], ["b", "x", "c"]
        runs(one, other).clear()
        self.assertEqual((one, other), (["a", "b", "c"], ["b", "x", "c"]))


class TestTurned(unittest.TestCase):
    def test_one_becomes_other(self):
        for one, other in two_rows():
            self.assertEqual(turned(one, other, runs(one, other)), other, (one, other))
            self.assertEqual(turned(other, one, runs(other, one)), one, (one, other))

    def test_by_the_same_runs_turned_about(self):
        for one, other in two_rows():
            about = [(k, others, i, many) for i, many, k, others in runs(one, other)]
            self.assertEqual(turned(other, one, about), one, (one, other))

    def test_without_runs_it_stays(self):
        self.assertEqual(turned(["a", "b"], ["a", "b"], []), ["a", "b"])
        self.assertEqual(turned([], [], []), [])

    def test_texts_of_forty_lines(self):
        one = [f"{place}\n" for place in range(40)]
        other = [f"{place}\n" if place % 3 else f"new {place}\n" for place in range(40)] + ["end"]
        self.assertEqual(turned(one, other, runs(one, other)), other)
        self.assertEqual(turned(other, one, runs(other, one)), one)

    def test_nothing_handed_in_is_changed_or_kept(self):
        one, other = ["a", "b", "c"], ["b", "x", "c", "d"]
        told = runs(one, other)
        before = list(told)
        made = turned(one, other, told)
        made.clear()
        self.assertEqual((one, other, told), (["a", "b", "c"], ["b", "x", "c", "d"], before))
        self.assertEqual(turned(one, other, told), other)

    def test_told_is_a_new_list(self):
        row = ["a", "b"]
        for one, other in ((row, row), (row, list(row)), (list(row), row), ([], row), (row, [])):
            told = turned(one, other, runs(one, other))
            self.assertIsInstance(told, list)
            self.assertIsNot(told, one)
            self.assertIsNot(told, other)
