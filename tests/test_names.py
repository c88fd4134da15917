"""[1.1]: what a name is, and the order of names."""

import unittest

from strata.names import is_name, names_rise

NAME_SIGNS = "-.0123456789ABCDEFGHIJKLMNOPQRSTUVWXYZ_abcdefghijklmnopqrstuvwxyz"


class TestIsName(unittest.TestCase):
    def test_one_to_twelve_signs(self):
        for many in range(1, 13):
            with self.subTest(many=many):
                self.assertTrue(is_name("a" * many))

    def test_no_sign_and_too_many(self):
        for many in (0, 13, 14, 25, 1000):
            with self.subTest(many=many):
                self.assertFalse(is_name("a" * many))

    def test_each_sign_alone_and_among_others(self):
        for number in range(256):
            sign = chr(number)
            with self.subTest(number=number):
                self.assertEqual(is_name(sign), sign in NAME_SIGNS and sign != ".")
                self.assertEqual(is_name("a" + sign), sign in NAME_SIGNS)
                self.assertEqual(is_name(sign + "a"), sign in NAME_SIGNS)
                self.assertEqual(is_name("a" + sign + "b"), sign in NAME_SIGNS)

    def test_letters_and_figures_of_other_scripts(self):
        for sign in "\u0430\u03b1\u0665\uff21\u00e9":
            self.assertFalse(is_name(sign))

    def test_one_dot_and_two_are_none_but_three_are(self):
        self.assertFalse(is_name("."))
        self.assertFalse(is_name(".."))
        for name in ("...", "............", ".a", "a.", "..a", "._", "-", "_", "--", "7"):
            with self.subTest(name=name):
                self.assertTrue(is_name(name))

    def test_line_ends_and_blanks(self):
        for text in ("a\n", "\na", "\n", " ", "a b", "a ", " a", "a/b", "/"):
            with self.subTest(text=text):
                self.assertFalse(is_name(text))


class TestNamesRise(unittest.TestCase):
    def test_none_and_one(self):
        self.assertTrue(names_rise([]))
        self.assertTrue(names_rise(["b"]))

    def test_by_the_signs_numbers(self):
        signs = [sign for sign in NAME_SIGNS if sign != "."]
        self.assertTrue(names_rise(signs))
        for place in range(len(signs) - 1):
            with self.subTest(sign=signs[place]):
                self.assertFalse(names_rise([signs[place + 1], signs[place]]))

    def test_the_shorter_ahead_of_a_longer_that_begins_alike(self):
        self.assertTrue(names_rise(["a", "a-", "aa", "aaa", "b"]))
        self.assertFalse(names_rise(["aa", "a"]))
        self.assertFalse(names_rise(["a-", "a"]))

    def test_the_first_sign_that_differs_counts_ahead_of_length(self):
        self.assertTrue(names_rise(["ab", "b"]))
        self.assertTrue(names_rise(["10", "9"]))
        self.assertFalse(names_rise(["b", "ab"]))

    def test_two_alike(self):
        self.assertFalse(names_rise(["a", "a"]))
        self.assertFalse(names_rise(["a", "b", "b", "c"]))

    def test_out_of_order_at_each_place(self):
        names = ["a", "b", "c", "d"]
        for place in range(3):
            turned = list(names)
            turned[place], turned[place + 1] = turned[place + 1], turned[place]
            with self.subTest(place=place):
                self.assertFalse(names_rise(turned))
