"""Point [9]: what rows are, and where they lead."""

import copy
import random
import unittest

from caseways.rowforms import goals_of, is_rows
from helper import ODD_THINGS, some_rows

ALL_FORMS = [
    ("is", 3, 6),
    ("within", -4, 9, 2),
    ("below", -1, 6),
    ("mask", -2, 5, 19, 4),
    ("table", 7, (5, 6, 5)),
    ("pick", 4),
    ("pick", 0),
]


class Looking(unittest.TestCase):
    def yes(self, thing):
        self.assertIs(is_rows(thing), True, thing)

    def no(self, thing):
        self.assertIs(is_rows(thing), False, thing)

    def row(self, row, right):
        """A row as the first of three, of which the third is one it may lead to."""
        told = is_rows([row, ("pick", 0), ("pick", 1)])
        self.assertIs(told, right, row)

    def rows_are_no(self, *rows):
        for row in rows:
            self.row(row, False)

    def rows_are_right(self, *rows):
        for row in rows:
            self.row(row, True)


class IsRows(Looking):
    def test_all_forms(self):
        self.yes(ALL_FORMS)
        self.yes(ALL_FORMS[5:])
        self.yes([("pick", 0)])

    def test_rows_of_any_make(self):
        chance = random.Random(91)
        for many in range(1, 40):
            for _ in range(5):
                self.yes(some_rows(chance, many, -9, 9, 64))

    def test_any_numbers_are_tested_for(self):
        for number in (-(10 ** 30), -1, 0, 1, 10 ** 30):
            self.rows_are_right(
                ("is", number, 1), ("below", number, 2), ("within", number, number, 1),
                ("mask", number, 1, 1, 2), ("table", number, (1,)),
            )

    def test_low_at_most_high(self):
        self.rows_are_right(("within", 5, 5, 1), ("within", -6, -5, 1), ("within", -(10 ** 30), 10 ** 30, 1))
        self.rows_are_no(("within", 5, 4, 1), ("within", -5, -6, 1), ("within", 0, -1, 1))

    def test_how_wide_a_mask_is(self):
        self.rows_are_right(("mask", 0, 1, 0, 1), ("mask", 0, 64, 0, 1))
        self.rows_are_no(
            ("mask", 0, 0, 0, 1), ("mask", 0, 65, 0, 1), ("mask", 0, -1, 0, 1), ("mask", 0, 10 ** 30, 0, 1),
        )

    def test_bits_of_a_mask(self):
        for wide in range(1, 65):
            self.rows_are_right(("mask", 0, wide, 0, 1), ("mask", 0, wide, 2 ** wide - 1, 1))
            self.rows_are_no(("mask", 0, wide, -1, 1), ("mask", 0, wide, 2 ** wide, 1))
        self.rows_are_no(("mask", 0, 64, 2 ** 100, 1))

    def test_goals_of_a_table(self):
        self.rows_are_right(("table", 0, (1,)), ("table", 0, (2, 1, 2, 1)), ("table", 0, (1,) * 5000))
        self.rows_are_no(
            ("table", 0, ()), ("table", 0, (0,)), ("table", 0, (3,)), ("table", 0, (1, 2, 3)),
            ("table", 0, (0, 1, 2)), ("table", 0, (1, -1)), ("table", 0, 1), ("table", 0, [1]), ("table", 0, (1, None)),
        )

    def test_goals_are_there_and_behind_the_rows_own(self):
        for make in (
            lambda t: ("is", 0, t),
            lambda t: ("below", 0, t),
            lambda t: ("within", 0, 0, t),
            lambda t: ("mask", 0, 1, 1, t),
            lambda t: ("table", 0, (t,)),
            lambda t: ("table", 0, (3, t, 3)),
        ):
            for t, right in ((-1, False), (0, False), (1, False), (2, True), (3, True), (4, False), (10 ** 9, False)):
                self.assertIs(is_rows([("pick", 0), make(t), ("pick", 0), ("pick", 0)]), right, make(t))

    def test_the_last_one_is_a_pick(self):
        for row in ALL_FORMS[:5]:
            self.no([row])
            self.no([("pick", 0), row])
            self.no([("pick", 0)] * 6 + [row])
        self.no([("pick", 0), ("is", 0, 1)])
        self.no([("pick", 0), ("table", 0, ())])

    def test_labels_from_0_on(self):
        self.rows_are_right(("pick", 0), ("pick", 99), ("pick", 10 ** 30))
        self.rows_are_no(("pick", -1), ("pick", -(10 ** 30)))
        self.no([("pick", -1)])

    def test_no_bound_is_looked_at(self):
        self.yes([("is", k, k + 1) for k in range(5000)] + [("pick", 0)])
        self.yes([("pick", k) for k in range(2001)])
        self.yes([("is", 0, 2000)] * 2000 + [("pick", 1000)])

    def test_an_empty_list(self):
        self.no([])

    def test_true_and_false_are_no_numbers(self):
        for truth in (True, False):
            self.rows_are_no(
                ("is", truth, 1), ("below", truth, 1), ("within", truth, 1, 1), ("within", 0, truth, 1),
                ("mask", truth, 2, 1, 1), ("mask", 0, truth, 0, 1), ("mask", 0, 2, truth, 1),
                ("table", truth, (1,)), ("pick", truth),
            )
        self.rows_are_no(
            ("is", 0, True), ("below", 0, True), ("within", 0, 1, True), ("mask", 0, 2, 1, True),
            ("table", 0, (True,)), ("table", 0, (1, True)),
        )

    def test_a_list_for_a_tuple(self):
        for place, row in enumerate(ALL_FORMS):
            self.no(ALL_FORMS[:place] + [list(row)] + ALL_FORMS[place + 1:])
        self.row(("table", 0, [1, 2]), False)

    def test_a_tuple_for_a_list(self):
        self.no(tuple(ALL_FORMS))
        self.no((("pick", 0),))
        self.no(("pick", 0))

    def test_a_part_too_few_or_too_many(self):
        for place, row in enumerate(ALL_FORMS):
            for other in (row[:-1], row[:1], (), row[1:], row + (6,), row + ((6,),), row + (None,), row[:1] + row):
                self.no(ALL_FORMS[:place] + [other] + ALL_FORMS[place + 1:])

    def test_another_word(self):
        for place, row in enumerate(ALL_FORMS):
            for word in ("", "IS", "Pick", "pick ", "goto", "from", "bits", 0, 3) + tuple(ODD_THINGS):
                if (word, len(row)) not in (("is", 3), ("below", 3)):
                    self.no(ALL_FORMS[:place] + [(word,) + row[1:]] + ALL_FORMS[place + 1:])

    def test_odd_things_in_each_place(self):
        for odd in ODD_THINGS + ["abc", (5, 6), [5, 6]]:
            self.no(odd)
            self.no([odd])
            for place, row in enumerate(ALL_FORMS):
                self.no(ALL_FORMS[:place] + [odd] + ALL_FORMS[place + 1:])
                for part in range(1, len(row)):
                    if row[0] == "table" and part == 2 and odd == (5, 6):
                        continue
                    other = row[:part] + (odd,) + row[part + 1:]
                    self.no(ALL_FORMS[:place] + [other] + ALL_FORMS[place + 1:])
            self.row(("table", 0, (1, odd)), False)

    def test_nothing_handed_in_is_changed(self):
        for thing in (list(ALL_FORMS), [["is", 3, [4]], None], [("table", 0, [1, [2]]), ("pick", 0)]):
            kept = copy.deepcopy(thing)
            told = is_rows(thing)
            self.assertEqual(thing, kept)
            self.assertIs(is_rows(thing), told)


class GoalsOf(unittest.TestCase):
    def test_each_form(self):
        self.assertEqual(goals_of(("is", 3, 6)), [6])
        self.assertEqual(goals_of(("within", -4, 9, 2)), [2])
        self.assertEqual(goals_of(("below", -1, 5)), [5])
        self.assertEqual(goals_of(("mask", -2, 5, 19, 4)), [4])
        self.assertEqual(goals_of(("table", 7, (5,))), [5])
        self.assertEqual(goals_of(("pick", 4)), [])

    def test_goals_of_a_table_as_they_stand(self):
        self.assertEqual(goals_of(("table", 7, (9, 5, 6, 5, 9, 9))), [9, 5, 6, 5, 9, 9])

    def test_a_new_list_each_time(self):
        for row in ALL_FORMS:
            kept = copy.deepcopy(row)
            first = goals_of(row)
            goals = list(first)
            self.assertIsInstance(first, list)
            self.assertIsNot(goals_of(row), first)
            first.append(99)
            first[0] = 98
            self.assertEqual(goals_of(row), goals)
            self.assertEqual(row, kept)


if __name__ == "__main__":
    unittest.main()
