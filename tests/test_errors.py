"""The refusals: DOC.md's interface, and point [2] on how they stand to one another."""

import unittest

from caseways.errors import BadText, Beyond, CaseError, NoStretch, TooNarrow, Twice

REFUSALS = [Twice, Beyond, TooNarrow, NoStretch, BadText]
MADE = [Twice(1, 2, -3), Beyond(4), TooNarrow("no plan is so small"), NoStretch(5), BadText(6)]


class Standing(unittest.TestCase):
    def test_the_common_class_stands_straight_under_value_error(self):
        self.assertEqual(CaseError.__bases__, (ValueError,))

    def test_each_refusal_stands_straight_under_the_common_class(self):
        for refusal in REFUSALS:
            self.assertEqual(refusal.__bases__, (CaseError,), refusal)

    def test_no_refusal_is_of_another_ones_kind(self):
        for made, own in zip(MADE, REFUSALS):
            for refusal in REFUSALS:
                self.assertIs(isinstance(made, refusal), refusal is own, (made, refusal))

    def test_each_is_caught_by_the_common_names(self):
        for made in MADE:
            for name in (CaseError, ValueError, made.__class__):
                with self.assertRaises(name):
                    raise made


class Fields(unittest.TestCase):
    def test_twice(self):
        made = Twice(3, 7, -128)
        self.assertEqual((made.one, made.other, made.number), (3, 7, -128))

    def test_beyond(self):
        self.assertEqual(Beyond(0).row, 0)
        self.assertEqual(Beyond(1999).row, 1999)

    def test_no_stretch(self):
        self.assertEqual(NoStretch(0).place, 0)
        self.assertEqual(NoStretch(1999).place, 1999)

    def test_bad_text(self):
        self.assertEqual(BadText(0).row, 0)
        self.assertEqual(BadText(299).row, 299)

    def test_too_narrow_is_made_with_words(self):
        self.assertEqual(str(TooNarrow("no plan is so small")), "no plan is so small")

    def test_fields_of_one_are_not_those_of_another(self):
        one, other = Beyond(1), Beyond(2)
        self.assertEqual((one.row, other.row), (1, 2))


if __name__ == "__main__":
    unittest.main()
