"""The refusals: all of one family, none below another."""

import unittest

from strata.errors import BadCommit, BadPack, BadTree, NoObject, NoPath, StrataError

REFUSALS = (NoObject, BadTree, BadCommit, NoPath, BadPack)


class TestErrors(unittest.TestCase):
    def test_any_refusal_is_a_value_error(self):
        self.assertTrue(issubclass(StrataError, ValueError))

    def test_each_refusal_is_a_strata_error(self):
        for refusal in REFUSALS:
            with self.subTest(refusal=refusal.__name__):
                self.assertTrue(issubclass(refusal, StrataError))
                self.assertIsNot(refusal, StrataError)

    def test_none_is_below_another(self):
        for one in REFUSALS:
            for other in REFUSALS:
                if one is not other:
                    with self.subTest(one=one.__name__, other=other.__name__):
                        self.assertFalse(issubclass(one, other))

    def test_bad_pack_has_its_line_when_made(self):
        for line in (1, 2, 40, 10 ** 15):
            self.assertEqual(BadPack(line).line, line)

    def test_two_bad_packs_have_a_line_each(self):
        one = BadPack(3)
        other = BadPack(7)
        self.assertEqual((one.line, other.line), (3, 7))

    def test_bad_pack_is_taken_as_a_value_error(self):
        with self.assertRaises(ValueError) as caught:
            raise BadPack(12)
        self.assertEqual(caught.exception.line, 12)
