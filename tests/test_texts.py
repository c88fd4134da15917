"""[2.3] and [0.2]: two texts merged by what they have in common with a base."""

import itertools
import unittest

from strata.lines import lines_of, paired
from strata.texts import merged_text


def conflict(ours, theirs):
    return "<<<<<<<\n" + ours + "=======\n" + theirs + ">>>>>>>\n"


def ended(text):
    return text if text == "" or text.endswith("\n") else text + "\n"


def merged_by_the_words(base, ours, theirs):
    """Part by part, from the places of the fixed lines, with texts in the place of rows of lines."""
    rows = [lines_of(text) for text in (base, ours, theirs)]
    mine, yours = dict(paired(rows[0], rows[1])), dict(paired(rows[0], rows[2]))
    fixed = [(place, mine[place], yours[place]) for place in sorted(set(mine) & set(yours))]
    told, conflicts = "", 0
    bounds = [(-1, -1, -1)] + fixed + [tuple(len(row) for row in rows)]
    for ahead, behind in zip(bounds, bounds[1:]):
        b, o, t = ["".join(row[start + 1:stop]) for row, start, stop in zip(rows, ahead, behind)]
        if o == b:
            told += t
        elif t == b or t == o:
            told += o
        else:
            told += conflict(ended(o), ended(t))
            conflicts += 1
        told += "".join(rows[0][behind[0]:behind[0] + 1])
    return (told, conflicts)


def small_texts(longest):
    """All texts of few lines, a and b alone on them, with the last line end and without."""
    found = [""]
    for many in range(1, longest + 1):
        for letters in itertools.product("ab", repeat=many):
            found += ["\n".join(letters), "\n".join(letters) + "\n"]
    return found


def numbered(changed):
    """Forty lines, those of a dict in the place of their own."""
    return "".join([changed.get(place, f"line {place}\n") for place in range(40)])


class Merging(unittest.TestCase):
    def merges(self, base, ours, theirs, text):
        """Without conflicts, and the same turned about."""
        self.assertEqual(merged_text(base, ours, theirs), (text, 0))
        self.assertEqual(merged_text(base, theirs, ours), (text, 0))

    def clashes(self, base, ours, theirs, text, conflicts=1):
        self.assertEqual(merged_text(base, ours, theirs), (text, conflicts))
        self.assertEqual(merged_text(base, theirs, ours)[1], conflicts)


class TestWithoutConflicts(Merging):
    def test_one_side_as_the_base(self):
        texts = ("", "\n", "a", "a\n", "a\nb\n", "b\na\n", "a\nb", "x\ny\nz\n", "a\n\n", "\na", "line\n" * 40)
        for base, other in itertools.product(texts, repeat=2):
            self.merges(base, base, other, other)

    def test_both_sides_alike(self):
        texts = ("", "\n", "a", "a\n", "a\nb\n", "b\na\n", "x\ny\nz\n", "x\ny\nz")
        for base, both in itertools.product(texts, repeat=2):
            self.merges(base, both, both, both)

    def test_both_changed_parts_apart(self):
        self.merges("a\nb\nc\n", "x\nb\nc\n", "a\nb\ny\n", "x\nb\ny\n")
        self.merges("a\nb\nc\nd\ne\n", "a\nx\nc\nd\ne\n", "a\nb\nc\ny\ne\n", "a\nx\nc\ny\ne\n")

    def test_both_put_in_apart(self):
        self.merges("a\nb\n", "x\na\nb\n", "a\nb\ny\n", "x\na\nb\ny\n")
        self.merges("a\nb\nc\n", "a\nx\nb\nc\n", "a\nb\ny\nc\n", "a\nx\nb\ny\nc\n")

    def test_both_took_out_apart(self):
        self.merges("a\nb\nc\n", "b\nc\n", "a\nb\n", "b\n")
        self.merges("a\nb\nc\nd\ne\n", "a\nc\nd\ne\n", "a\nb\nc\ne\n", "a\nc\ne\n")

    def test_one_took_out_one_put_in(self):
        self.merges("a\nb\nc\n", "b\nc\n", "a\nb\nc\nx\n", "b\nc\nx\n")

    def test_both_changed_the_same_part_alike(self):
        self.merges("a\nb\nc\n", "a\nx\nc\n", "a\nx\nc\n", "a\nx\nc\n")
        self.merges("a\nb\nc\n", "a\nc\n", "a\nc\n", "a\nc\n")
        self.merges("a\nc\n", "a\nx\nc\n", "a\nx\nc\n", "a\nx\nc\n")

    def test_the_same_part_alike_and_another_apart(self):
        self.merges("a\nb\nc\nd\n", "x\nb\nc\ny\n", "x\nb\nc\nd\n", "x\nb\nc\ny\n")
        self.merges("a\nb\nc\nd\ne\n", "w\nb\nx\nd\ne\n", "a\nb\nx\nd\ny\n", "w\nb\nx\nd\ny\n")

    def test_an_empty_base(self):
        self.merges("", "", "", "")
        self.merges("", "a\n", "", "a\n")
        self.merges("", "a\nb", "a\nb", "a\nb")

    def test_empty_sides(self):
        self.merges("a\nb\n", "", "a\nb\n", "")
        self.merges("a\nb\n", "", "", "")

    def test_the_last_line_end_changed_on_one_side(self):
        self.merges("a\nb\nc", "a\nb\nc\n", "x\nb\nc", "x\nb\nc\n")
        self.merges("a\nb\nc\n", "a\nb\nc", "x\nb\nc\n", "x\nb\nc")
        self.merges("a\n", "a", "a\n", "a")
        self.merges("a", "a\n", "a", "a\n")
        self.merges("a", "a\nb", "a", "a\nb")

    def test_last_lines_without_a_line_end_that_stay(self):
        self.merges("a\nb\nc", "x\nb\nc", "a\nb\nc", "x\nb\nc")
        self.merges("a\nb\nc", "x\na\nb\nc", "a\nb\ny\nc", "x\na\nb\ny\nc")


class TestConflicts(Merging):
    def test_both_changed_the_same_part(self):
        self.clashes("a\nb\nc\n", "a\nx\nc\n", "a\ny\nc\n", "a\n" + conflict("x\n", "y\n") + "c\n")

    def test_the_very_lines(self):
        text = "a\n<<<<<<<\nx\n=======\ny\n>>>>>>>\nc\n"
        self.assertEqual(merged_text("a\nb\nc\n", "a\nx\nc\n", "a\ny\nc\n"), (text, 1))

    def test_ours_stands_ahead_of_theirs(self):
        self.assertEqual(merged_text("b\n", "x\n", "y\n"), (conflict("x\n", "y\n"), 1))
        self.assertEqual(merged_text("b\n", "y\n", "x\n"), (conflict("y\n", "x\n"), 1))

    def test_taken_out_on_one_side_and_changed_on_the_other(self):
        self.assertEqual(merged_text("a\nb\nc\n", "a\nc\n", "a\ny\nc\n"), ("a\n" + conflict("", "y\n") + "c\n", 1))
        self.assertEqual(merged_text("a\nb\nc\n", "a\ny\nc\n", "a\nc\n"), ("a\n" + conflict("y\n", "") + "c\n", 1))
        self.assertEqual(merged_text("a\n", "", "b\n"), (conflict("", "b\n"), 1))
        self.assertEqual(merged_text("a\n", "b", ""), (conflict("b\n", ""), 1))

    def test_both_put_in_at_one_place(self):
        self.clashes("a\nb\n", "a\nx\nb\n", "a\ny\nb\n", "a\n" + conflict("x\n", "y\n") + "b\n")
        self.clashes("a\n", "a\nx\n", "a\nx\ny\n", "a\n" + conflict("x\n", "x\ny\n"))

    def test_parts_beside_one_another_are_one(self):
        self.clashes("a\nb\n", "x\nb\n", "a\ny\n", conflict("x\nb\n", "a\ny\n"))
        self.clashes("a\nb\nc\n", "a\nx\nb\nc\n", "a\ny\nc\n", "a\n" + conflict("x\nb\n", "y\n") + "c\n")

    def test_ahead_of_the_first_fixed_line(self):
        self.clashes("a\nb\n", "x\nb\n", "y\nb\n", conflict("x\n", "y\n") + "b\n")
        self.clashes("b\n", "x\nb\n", "y\nb\n", conflict("x\n", "y\n") + "b\n")

    def test_behind_the_last_fixed_line(self):
        self.clashes("a\nb\n", "a\nx\n", "a\ny\n", "a\n" + conflict("x\n", "y\n"))
        self.clashes("a\n", "a\nx\n", "a\ny\n", "a\n" + conflict("x\n", "y\n"))

    def test_an_empty_base(self):
        self.clashes("", "a\n", "b\n", conflict("a\n", "b\n"))
        self.clashes("", "a", "b", conflict("a\n", "b\n"))
        self.clashes("", "a\nb\nc\n", "a\nx\nc\n", conflict("a\nb\nc\n", "a\nx\nc\n"))

    def test_no_fixed_line(self):
        self.clashes("a\nb\n", "c\n", "d\ne\n", conflict("c\n", "d\ne\n"))
        self.clashes("a\nb\n", "a\n", "b\n", conflict("a\n", "b\n"))

    def test_a_line_paired_on_one_side_only_is_not_fixed(self):
        self.clashes("a\nb\nc\n", "x\nb\ny\n", "p\nq\n", conflict("x\nb\ny\n", "p\nq\n"))
        self.clashes("a\nb\nc\nd\n", "x\nb\nc\nd\n", "y\nz\nd\n", conflict("x\nb\nc\n", "y\nz\n") + "d\n")

    def test_several(self):
        told = conflict("1\n", "2\n") + "b\n" + conflict("3\n", "4\n") + "d\n" + conflict("5\n", "6\n")
        self.clashes("a\nb\nc\nd\ne\n", "1\nb\n3\nd\n5\n", "2\nb\n4\nd\n6\n", told, 3)

    def test_some_parts_in_conflict_and_some_not(self):
        told = "1\nb\n" + conflict("2\n", "3\n") + "d\n4\nf\n" + conflict("5\n", "")
        self.clashes("a\nb\nc\nd\ne\nf\ng\n", "1\nb\n2\nd\ne\nf\n5\n", "a\nb\n3\nd\n4\nf\n", told, 2)

    def test_lines_that_look_like_marks(self):
        text = "<<<<<<<\n=======\n>>>>>>>\n"
        self.merges(text, text, text + "a\n", text + "a\n")
        self.clashes(text, text + "a", text + "b", text + conflict("a\n", "b\n"))


class TestLineEnds(Merging):
    def test_a_line_end_is_put_in_a_conflict(self):
        for ours, theirs in itertools.product(("x", "x\n"), ("y", "y\n")):
            for base in ("b", "b\n", ""):
                self.clashes(base, ours, theirs, conflict("x\n", "y\n"))
                self.clashes("a\n" + base, "a\n" + ours, "a\n" + theirs, "a\n" + conflict("x\n", "y\n"))

    def test_only_behind_the_last_line(self):
        self.clashes("b", "x\n\ny", "\n\nz", conflict("x\n\ny\n", "\n\nz\n"))
        self.clashes("b\n", "x\n\n", "\n", conflict("x\n\n", "\n"))

    def test_none_behind_a_side_without_lines(self):
        self.clashes("a\nb", "a\n", "a\nc", "a\n" + conflict("", "c\n"))
        self.assertEqual(merged_text("a\nb", "a\nc", "a\n"), ("a\n" + conflict("c\n", ""), 1))

    def test_sides_that_differ_by_the_line_end_alone(self):
        self.clashes("b\n", "x\n", "x", conflict("x\n", "x\n"))
        self.clashes("", "x", "x\n", conflict("x\n", "x\n"))

    def test_a_line_end_changed_here_and_a_line_put_in_there(self):
        self.clashes("a\nb", "a\nb\n", "a\nb\nc\n", "a\n" + conflict("b\n", "b\nc\n"))
        self.clashes("a\nb", "a\nb\n", "x\nb", conflict("a\nb\n", "x\nb\n"))
        self.clashes("a\nb\n", "a\nb", "a\nb\nc", "a\n" + conflict("b\n", "b\nc\n"))

    def test_beside_a_conflict(self):
        self.clashes("a\nb\nc", "x\nb\nc", "y\nb\nc", conflict("x\n", "y\n") + "b\nc")
        self.clashes("a\nb\nc", "x\nb\nc\n", "y\nb\nc", conflict("x\n", "y\n") + "b\nc\n")
        self.clashes("a\nb\nc\n", "x\nb\nc", "y\nb\nc\n", conflict("x\n", "y\n") + "b\nc")
        self.clashes("a\nb\nc\n", "x\nb\nc", "y\nb\nc", conflict("x\n", "y\n") + "b\nc")

    def test_a_text_with_a_conflict_at_its_end_ends_with_a_line_end(self):
        self.clashes("a\nb", "a\nx", "a\ny", "a\n" + conflict("x\n", "y\n"))


class TestFortyLines(Merging):
    def test_apart(self):
        ours = numbered({0: "x\n", 10: "", 20: "y\nz\n"})
        theirs = numbered({5: "p\n", 15: "", 39: "end"})
        self.merges(numbered({}), ours, theirs, numbered(
            {0: "x\n", 5: "p\n", 10: "", 15: "", 20: "y\nz\n", 39: "end"}
        ))

    def test_a_conflict_at_each_second_line(self):
        even = range(0, 40, 2)
        told = numbered({place: conflict(f"o{place}\n", f"t{place}\n") for place in even})
        ours = numbered({place: f"o{place}\n" for place in even})
        theirs = numbered({place: f"t{place}\n" for place in even})
        self.clashes(numbered({}), ours, theirs, told, 20)

    def test_nothing_in_common(self):
        base = "".join([f"b{place}\n" for place in range(40)])
        ours = "".join([f"o{place}\n" for place in range(40)])
        theirs = "".join([f"t{place}\n" for place in range(40)])
        self.clashes(base, ours, theirs, conflict(ours, theirs))

    def test_lines_many_times_alike(self):
        base = "a\nb\n" * 20
        ours, theirs = "x\n" + base, base + "y\n"
        self.merges(base, ours, theirs, "x\n" + base + "y\n")
        self.assertEqual(merged_text(base, "b\na\n" * 20, "b\n" * 40), merged_by_the_words(
            base, "b\na\n" * 20, "b\n" * 40
        ))

    def test_what_merging_made_is_merged_again(self):
        base = numbered({})
        made = merged_text(base, "x\n" * 40, "y\n" * 40)[0]
        self.assertEqual(made, conflict("x\n" * 40, "y\n" * 40))
        self.merges(made, made + "end\n", "begin\n" + made, "begin\n" + made + "end\n")


class TestAllSmallTexts(unittest.TestCase):
    def test_part_by_part(self):
        for base, ours, theirs in itertools.product(small_texts(2), small_texts(3), small_texts(3)):
            told = merged_text(base, ours, theirs)
            self.assertEqual(told, merged_by_the_words(base, ours, theirs), (base, ours, theirs))

    def test_longer_bases(self):
        for base, ours, theirs in itertools.product(small_texts(4)[15:], small_texts(2), small_texts(3)):
            told = merged_text(base, ours, theirs)
            self.assertEqual(told, merged_by_the_words(base, ours, theirs), (base, ours, theirs))

    def test_turned_about(self):
        for base, ours, theirs in itertools.product(small_texts(3), repeat=3):
            one, other = merged_text(base, ours, theirs), merged_text(base, theirs, ours)
            self.assertEqual(one[1], other[1], (base, ours, theirs))
            if one[1] == 0:
                self.assertEqual(one[0], other[0], (base, ours, theirs))

    def test_told_is_a_tuple_of_a_text_and_a_number(self):
        for texts in (("", "", ""), ("a", "b", "c"), ("a\n", "a\n", "b\n")):
            told = merged_text(*texts)
            self.assertIs(told.__class__, tuple)
            self.assertEqual([part.__class__ for part in told], [str, int])
