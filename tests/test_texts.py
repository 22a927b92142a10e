"""Point [23]: texts of choices."""

import copy
import random
import unittest

from caseways.errors import BadText, Beyond, CaseError, NoStretch, TooNarrow, Twice
from caseways.texts import choice_from, choice_text
from helper import BAD_NUMBERS, KINDS, NUMBER, garbled, is_kind_text, numbers_of_kind, plain_case, plain_lines, some_choice

CHOICE = (8, 1, [[("is", 0)], [], [("from", -128, -1), ("bits", 3, 1), ("is", 100)]])
TEXT = "choice 8 1\ncase 0\ncase\ncase -128..-1 3&1 100"


def plain_choice_from(text):
    """The choice of a text, or the number of its first bad row, by the forms of words."""
    first, *others = plain_lines(text)
    if not is_kind_text(first):
        return 0
    width, sign = [int(word) for word in first.split(" ")[1:]]
    cases = []
    for own, line in enumerate(others, 1):
        items = plain_case(width, sign, line)
        if items is None:
            return own
        cases.append(items)
    return (width, sign, cases)


class Checks(unittest.TestCase):
    def refused(self, text, row):
        with self.assertRaises(BadText, msg=repr(text)) as caught:
            choice_from(text)
        self.assertEqual(caught.exception.row, row, repr(text))
        self.assertIs(type(caught.exception.row), int)

    def refused_case(self, words, kind="8 1"):
        """Whether a case's row is refused, as the first, a middle and the last one."""
        self.refused(f"choice {kind}\n{words}", 1)
        self.refused(f"choice {kind}\ncase\n{words}\ncase 0", 2)
        self.refused(f"choice {kind}\ncase 0\ncase 0&0\n{words}", 3)

    def read(self, text, choice):
        told = choice_from(text)
        self.assertEqual(told, choice)
        self.assertIs(type(told), tuple)
        self.assertIs(type(told[2]), list)
        for items in told[2]:
            self.assertIs(type(items), list)
            for item in items:
                self.assertIs(type(item), tuple)


class ThereAndBack(Checks):
    def test_by_hand(self):
        self.assertEqual(choice_text(CHOICE), TEXT)
        self.read(TEXT, CHOICE)

    def test_no_cases(self):
        self.assertEqual(choice_text((1, 0, [])), "choice 1 0")
        self.read("choice 1 0", (1, 0, []))
        self.read("choice 40 1", (40, 1, []))

    def test_cases_without_items(self):
        self.assertEqual(choice_text((9, 0, [[], []])), "choice 9 0\ncase\ncase")
        self.read("choice 9 0\ncase\ncase", (9, 0, [[], []]))

    def test_each_form_of_item(self):
        self.read("choice 4 1\ncase -8 7 -8..7 7..7 0&0 15&15 0&15", (4, 1, [[
            ("is", -8), ("is", 7), ("from", -8, 7), ("from", 7, 7), ("bits", 0, 0), ("bits", 15, 15), ("bits", 0, 15),
        ]]))
        self.read("choice 4 0\ncase 15 0..15", (4, 0, [[("is", 15), ("from", 0, 15)]]))

    def test_items_twice_and_clashing(self):
        self.read("choice 4 0\ncase 1 1\ncase 1", (4, 0, [[("is", 1), ("is", 1)], [("is", 1)]]))

    def test_all_kinds(self):
        chance = random.Random(231)
        for width, sign in KINDS:
            for _ in range(5):
                choice = some_choice(chance, width, sign, 5, 5)
                text = choice_text(choice)
                self.assertIs(type(text), str)
                self.assertEqual(plain_choice_from(text), choice)
                self.read(text, choice)
                self.assertEqual(choice_text(choice_from(text)), text)

    def test_no_look_at_bounds(self):
        choice = (40, 0, [[("is", k * 1000 + n) for n in range(50)] for k in range(120)])
        self.read(choice_text(choice), choice)
        # As bits of the least place alone its numbers lie in 2 ** 39 stretches.
        self.read("choice 40 0\ncase 1&1", (40, 0, [[("bits", 1, 1)]]))


class FirstRows(Checks):
    def test_an_empty_text(self):
        self.refused("", 0)
        self.refused("\n", 0)
        self.refused("\nchoice 8 1", 0)

    def test_widths_and_signs(self):
        for width in (1, 40):
            for sign in (0, 1):
                self.read(f"choice {width} {sign}", (width, sign, []))
        for width in (0, 41, -1, 100, 10 ** 19):
            self.refused(f"choice {width} 0", 0)
            self.refused(f"choice {width} 1\ncase x", 0)
        for sign in (2, -1, 10):
            self.refused(f"choice 8 {sign}", 0)

    def test_words(self):
        for first in (
            "choice", "choice 8", "choice 8 1 1", "choice 8 1 ", " choice 8 1", "choice  8 1", "choice 8  1", "choice8 1",
            "choice 81", "Choice 8 1", "CHOICE 8 1", "case 8 1", "8 1", "choice\t8 1", "choice 8\t1", "choice 8 1\t",
            "choice 8,1", "choice 8 1;", "choices 8 1", "choice 8 0..1", "choice 8 1&1", "choice x 1", "choice 8 x",
            "choice 8 1\r", "\ufeffchoice 8 1", "choice\u00a08 1", "choice 8 1\u2028",
        ):
            self.refused(first, 0)
            self.refused(first + "\ncase 1", 0)
            self.refused(first + "\ncase 1 ", 0)

    def test_numbers_ill_written(self):
        for word in BAD_NUMBERS + ["01", "08", "+8", "8.", "-8", "--8"]:
            self.refused(f"choice {word} 1", 0)
        for word in BAD_NUMBERS + ["01", "+1", "-1", "00"]:
            self.refused(f"choice 8 {word}", 0)


class CaseRows(Checks):
    def test_words(self):
        for words in (
            "", " ", "case ", " case", "case 1 ", " case 1", "case  1", "case 1  2", "case1", "cases 1", "Case 1", "1", "1 2",
            "case\t1", "case 1\t2", "case 1,2", "case 1;", "case 1\r", "case\r", "choice 8 1", "case case 1", "case is 1",
            "case x", "case 1 x", "case ..", "case &", "case 1..", "case ..2", "case 1&", "case &1", "case 1.2", "case 1...2",
            "case 1....2", "case 1..2..3", "case 1&1&1", "case 1..2&3", "case 1&2..3", "case 1 ..2", "case 1.. 2", "case 1 & 1",
            "case 1& 1", "case 1 &1", "case 1-2", "case 1\u20262", "case\u00a01", "case 1\u30002", "case 1\x0b2", "case\x0c",
            "case 1\x1c", "case 1\x85", "case 1\u2028", "case 1\u20292", "case (1)", "case 0x1", "case 1e1", "case 1_0",
        ):
            self.refused_case(words)

    def test_signs_of_lines_end(self):
        for end in ("\r", "\r\n", "\x0b", "\x0c", "\x1c", "\x1d", "\x1e", "\x85", "\u2028", "\u2029"):
            text = f"choice 8 1{end}case 1"
            self.refused(text, 0)
            self.refused(f"choice 8 1\ncase 1{end}case 2", 1)
        self.refused("choice 8 1\ncase 1\r\ncase 2", 1)
        self.refused("choice 8 1\n", 1)
        self.refused("choice 8 1\ncase 1\n", 2)
        self.refused("choice 8 1\n\ncase 1", 1)
        self.refused("choice 8 1\ncase 1\n\n", 2)

    def test_numbers_ill_written(self):
        for word in BAD_NUMBERS:
            self.refused_case(f"case {word}")
            self.refused_case(f"case 1 {word}")
            self.refused_case(f"case {word} 1")
            self.refused_case(f"case {word}..100")
            self.refused_case(f"case -100..{word}")
            self.refused_case(f"case {word}&1")
            self.refused_case(f"case 1&{word}")

    def test_numbers_of_the_kind(self):
        for width, sign in KINDS:
            kind = f"{width} {sign}"
            low, high = numbers_of_kind(width, sign)[0], numbers_of_kind(width, sign)[-1]
            most = 2 ** width - 1
            self.read(f"choice {kind}\ncase {low} {high} {low}..{high} {most}&{most}", (width, sign, [[
                ("is", low), ("is", high), ("from", low, high), ("bits", most, most),
            ]]))
            self.refused_case(f"case {low - 1}", kind)
            self.refused_case(f"case {high + 1}", kind)
            self.refused_case(f"case {low - 1}..{high}", kind)
            self.refused_case(f"case {low}..{high + 1}", kind)
            self.refused_case(f"case {most + 1}&0", kind)
            self.refused_case(f"case 0&{most + 1}", kind)

    def test_low_above_high(self):
        self.read("choice 8 1\ncase 5..5 4..5", (8, 1, [[("from", 5, 5), ("from", 4, 5)]]))
        self.refused_case("case 5..4")
        self.refused_case("case 1..-1")
        self.refused_case("case 1 2 127..-128")

    def test_masks_and_values_below_0(self):
        self.refused_case("case -1&0")
        self.refused_case("case 0&-1")
        self.refused_case("case -128&-128")

    def test_the_first_bad_row(self):
        self.refused("choice 8 1\ncase 1\ncase 128\ncase 129", 2)
        self.refused("choice 8 1\ncase 1 \ncase 128", 1)
        self.refused("choice 8 1\ncase 5..4\n", 1)
        self.refused("choice 8 2\ncase 999", 0)
        self.refused("choice 8 1\n" + "case\n" * 400 + "case 128", 401)


class Garbled(Checks):
    def test_letters_changed_taken_out_or_put_in(self):
        chance = random.Random(232)
        told = {"choice": 0, "row": 0}
        for _ in range(6000):
            width, sign = chance.choice([(1, 0), (3, 1), (8, 1), (10, 0), (40, 1)])
            text = garbled(chance, choice_text(some_choice(chance, width, sign, 3, 3)), "choice as.&-+0123456789 \n\r\t\u0663")
            plain = plain_choice_from(text)
            if isinstance(plain, int):
                self.refused(text, plain)
                told["row"] += 1
            else:
                self.read(text, plain)
                told["choice"] += 1
        self.assertGreater(min(told.values()), 1000)


class Refusal(unittest.TestCase):
    def test_of_no_other_refusals_class(self):
        with self.assertRaises(BadText) as caught:
            choice_from("")
        self.assertIsInstance(caught.exception, CaseError)
        self.assertIsInstance(caught.exception, ValueError)
        self.assertNotIsInstance(caught.exception, (Twice, Beyond, NoStretch, TooNarrow))


class AskedAgain(unittest.TestCase):
    def test_nothing_handed_in_is_changed(self):
        choice = copy.deepcopy(CHOICE)
        for _ in range(2):
            self.assertEqual(choice_text(choice), TEXT)
            self.assertEqual(choice, CHOICE)

    def test_told_lists_are_the_askers_own(self):
        told = choice_from(TEXT)
        again = choice_from(TEXT)
        lists = [told[2], again[2]] + told[2] + again[2]
        self.assertEqual(len({id(part) for part in lists}), len(lists))
        for items in told[2]:
            items.append(("is", 5))
        told[2].clear()
        self.assertEqual(again, CHOICE)
        self.assertEqual(choice_from(TEXT), CHOICE)

    def test_changed_choices_are_written_anew(self):
        choice = copy.deepcopy(CHOICE)
        text = choice_text(choice)
        choice[2][1].append(("is", 5))
        self.assertEqual(text, TEXT)
        self.assertEqual(choice_text(choice), TEXT.replace("case\n", "case 5\n"))


class Numbers(unittest.TestCase):
    def test_the_plain_form(self):
        # The tests' own reading of numbers, by which the program's is judged.
        for word in ("0", "7", "10", "-1", "-10", "9" * 20, "-" + "9" * 20):
            self.assertTrue(NUMBER.fullmatch(word))
        for word in BAD_NUMBERS:
            self.assertFalse(NUMBER.fullmatch(word), repr(word))


if __name__ == "__main__":
    unittest.main()
