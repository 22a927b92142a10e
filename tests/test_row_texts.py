"""Point [23]: texts of rows."""

import copy
import random
import unittest

from caseways.errors import BadText
from caseways.rowforms import is_rows
from caseways.texts import rows_from, rows_text
from helper import BAD_NUMBERS, garbled, plain_lines, plain_numbers, plain_words, some_rows

# A row of each form.
ROWS = [
    ("below", -5, 6), ("is", 0, 7), ("within", -1, 3, 7), ("mask", 4, 4, 5, 6), ("table", -4, (6, 6, 7, 6)), ("pick", 9),
    ("pick", 4), ("pick", 0),
]
TEXT = "below -5 6\nis 0 7\nwithin -1 3 7\nmask 4 4 5 6\ntable -4 6 6 7 6\npick 9\npick 4\npick 0"


def plain_row(line, own, many):
    """The row that a line writes for a place, or None where it can't stand there."""
    words = plain_words(line)
    numbers = words and plain_numbers(words[1:])
    if not numbers:
        return None
    word, last, goals = words[0], own == many - 1, range(own + 1, many)
    if word == "pick":
        return ("pick", *numbers) if len(numbers) == 1 and numbers[0] >= 0 else None
    if last:
        return None
    if word == "table":
        told = tuple(numbers[1:])
        return ("table", numbers[0], told) if told and set(told) <= set(goals) else None
    if numbers[-1] not in goals or {"is": 2, "below": 2, "within": 3, "mask": 4}.get(word) != len(numbers):
        return None
    if word == "within" and numbers[0] > numbers[1]:
        return None
    if word == "mask" and (numbers[1] not in range(1, 65) or numbers[2] not in range(2 ** numbers[1])):
        return None
    return (word, *numbers)


def plain_rows_from(text):
    """The rows of a text, or the number of its first bad one."""
    lines = plain_lines(text)
    rows = []
    for own, line in enumerate(lines):
        row = plain_row(line, own, len(lines))
        if row is None:
            return own
        rows.append(row)
    return rows


class Checks(unittest.TestCase):
    def refused(self, text, row):
        with self.assertRaises(BadText, msg=repr(text)) as caught:
            rows_from(text)
        self.assertEqual(caught.exception.row, row, repr(text))
        self.assertIs(type(caught.exception.row), int)

    def refused_row(self, line):
        """Whether a row is refused, as the first of five and as the third one."""
        self.refused(f"{line}\npick 0\npick 1\npick 2\npick 3", 0)
        self.refused(f"pick 0\npick 1\n{line}\npick 2\npick 3", 2)

    def read(self, text, rows):
        told = rows_from(text)
        self.assertEqual(told, rows)
        self.assertIs(type(told), list)
        self.assertIs(is_rows(told), True)


class ThereAndBack(Checks):
    def test_by_hand(self):
        self.assertEqual(rows_text(ROWS), TEXT)
        self.read(TEXT, ROWS)

    def test_a_pick_alone(self):
        self.assertEqual(rows_text([("pick", 0)]), "pick 0")
        self.read("pick 0", [("pick", 0)])

    def test_all_forms(self):
        chance = random.Random(233)
        for _ in range(300):
            rows = some_rows(chance, chance.randrange(1, 15), -9, 9, chance.choice([6, 90]))
            text = rows_text(rows)
            self.assertIs(type(text), str)
            self.assertEqual(plain_rows_from(text), rows)
            self.read(text, rows)
            self.assertEqual(rows_text(rows_from(text)), text)

    def test_no_look_at_bounds(self):
        rows = [("is", 10 ** 19, at + 1) for at in range(3000)] + [("pick", 10 ** 19)]
        self.read(rows_text(rows), rows)
        rows = [("table", -(10 ** 19), (1, 2) * 400), ("pick", 100), ("pick", 5000)]
        self.read(rows_text(rows), rows)

    def test_numbers_at_their_bounds(self):
        most = 10 ** 20 - 1
        self.read(f"is {most} 1\npick {most}", [("is", most, 1), ("pick", most)])
        self.read(f"within -{most} {most} 1\npick 0", [("within", -most, most, 1), ("pick", 0)])
        self.refused(f"is {most + 1} 1\npick 0", 0)
        self.refused(f"is -{most + 1} 1\npick 0", 0)
        self.refused(f"is 0 1\npick {most + 1}", 1)


class Written(Checks):
    def test_an_empty_text(self):
        self.refused("", 0)
        self.refused("\n", 0)
        self.refused(" ", 0)

    def test_words(self):
        for line in (
            "", " ", "pick", "pick ", "pick 0 ", " pick 0", "pick  0", "pick 0 0", "pick0", "Pick 0", "PICK 0", "picks 0", "0",
            "pick\t0", "pick 0\t", "pick 0\r", "pick x", "is", "is 1", "is 1 4 4", "is  1 4", "is 1  4", "is 1 4 ", " is 1 4",
            "is1 4", "is 14", "IS 1 4", "isnt 1 4", "within", "within 1 4", "within 1 2 4 4", "within 1..2 4", "within 1 2  4",
            "below", "below 1", "below 1 4 4", "below 14", "mask", "mask 0 1 4", "mask 0 1 1 4 4", "mask 0 1  1 4", "mask 0 4",
            "table", "table 4", "table  4", "table 0  4", "table 0 4 ", "table 0 (4)", "table 0 4,4", "table 0 4, 4", "case 1",
            "choice 8 1", "goto 4", "pick\u00a00", "is\u30001 4", "pick 0;", "# pick 0", "('pick', 0)", "4", "4 4", "4 4 4",
        ):
            self.refused_row(line)

    def test_signs_of_lines_end(self):
        for end in ("\r", "\r\n", "\x0b", "\x0c", "\x1c", "\x1d", "\x1e", "\x85", "\u2028", "\u2029"):
            self.refused(f"pick 0{end}pick 1", 0)
            self.refused(f"pick 5\npick 0{end}pick 1", 1)
        self.refused("pick 0\n", 1)
        self.refused("pick 0\n\npick 1", 1)
        self.refused("\npick 0", 0)

    def test_numbers_ill_written(self):
        for word in BAD_NUMBERS:
            self.refused_row(f"is {word} 4")
            self.refused_row(f"is 0 {word}")
            self.refused_row(f"below {word} 4")
            self.refused_row(f"within {word} 99 4")
            self.refused_row(f"within -99 {word} 4")
            self.refused_row(f"mask {word} 2 1 4")
            self.refused_row(f"mask 0 {word} 0 4")
            self.refused_row(f"mask 0 2 {word} 4")
            self.refused_row(f"table {word} 4")
            self.refused_row(f"table 0 {word}")
            self.refused_row(f"table 0 4 {word} 4")
            self.refused_row(f"pick {word}")


class Standing(Checks):
    def test_goals_not_behind_the_row(self):
        for form in ("is 0 T", "below 0 T", "within 0 1 T", "mask 0 1 1 T", "table 0 T", "table 0 4 T 4"):
            for own in range(4):
                for goal in range(-1, 7):
                    lines = ["pick 0"] * 5
                    lines[own] = form.replace("T", str(goal))
                    if own < goal < 5:
                        self.assertEqual(len(rows_from("\n".join(lines))), 5)
                    else:
                        self.refused("\n".join(lines), own)

    def test_the_last_one_is_a_pick(self):
        for line in ("is 0 1", "below 0 2", "within 0 1 2", "mask 0 1 1 2", "table 0 2", "table 0 1"):
            self.refused(line, 0)
            self.refused("pick 0\n" + line, 1)
        self.read("is 0 1\npick 0", [("is", 0, 1), ("pick", 0)])

    def test_low_above_high(self):
        self.read("within 3 3 1\npick 0", [("within", 3, 3, 1), ("pick", 0)])
        self.refused_row("within 4 3 4")
        self.refused_row("within 0 -1 4")

    def test_labels(self):
        self.read("pick 100", [("pick", 100)])
        self.refused_row("pick -1")
        self.refused("pick 0\npick -1", 1)

    def test_how_wide_a_mask_is(self):
        for wide in (1, 2, 63, 64):
            most = 2 ** wide - 1
            for bits in (0, 1, most):
                self.read(f"mask 0 {wide} {bits} 1\npick 0", [("mask", 0, wide, bits, 1), ("pick", 0)])
            self.refused_row(f"mask 0 {wide} {most + 1} 4")
            self.refused_row(f"mask 0 {wide} -1 4")
        for wide in (0, -1, 65, 100):
            for bits in (0, 1):
                self.refused_row(f"mask 0 {wide} {bits} 4")

    def test_the_first_bad_row(self):
        self.refused("is 0 9\npick 0 \npick x", 0)
        self.refused("is 0 1\npick 0 \npick x", 1)
        self.refused("is 0 2\nis 0 1\nis 0 3", 1)
        self.refused("is 0 2\npick 0\nis 0 3", 2)


class Garbled(Checks):
    def test_letters_changed_taken_out_or_put_in(self):
        chance = random.Random(234)
        told = {"rows": 0, "row": 0}
        for _ in range(6000):
            rows = some_rows(chance, chance.randrange(1, 6), -9, 9, 6)
            text = garbled(chance, rows_text(rows), "iswthnbelopckmakt-+0123456789 \n\r\t\u0663")
            plain = plain_rows_from(text)
            if isinstance(plain, int):
                self.refused(text, plain)
                told["row"] += 1
            else:
                self.read(text, plain)
                told["rows"] += 1
        self.assertGreater(min(told.values()), 1000)


class AskedAgain(unittest.TestCase):
    def test_nothing_handed_in_is_changed(self):
        rows = copy.deepcopy(ROWS)
        for _ in range(2):
            self.assertEqual(rows_text(rows), TEXT)
            self.assertEqual(rows, ROWS)

    def test_told_lists_are_the_askers_own(self):
        told = rows_from(TEXT)
        told.clear()
        self.assertEqual(rows_from(TEXT), ROWS)


if __name__ == "__main__":
    unittest.main()
