"""Point [10]: runs of rows, and rows that are read beyond their ends."""

import copy
import random
import unittest

from caseways.errors import BadText, Beyond, CaseError, NoStretch, TooNarrow, Twice
from caseways.machine import run
from helper import plain_run, some_rows

FAR = (-(10 ** 30), -(2 ** 64), 2 ** 64, 10 ** 30)


class Running(unittest.TestCase):
    def check(self, rows, told):
        """Told are pairs of a number and what is told of it."""
        for number, answer in told.items():
            self.assertEqual(run(rows, number), answer, (rows, number))

    def refused(self, rows, number, row):
        with self.assertRaises(Beyond) as caught:
            run(rows, number)
        self.assertEqual(caught.exception.row, row, (rows, number))
        return caught.exception


class Run(Running):
    def test_a_pick_alone(self):
        for number in (0, -1, 5) + FAR:
            told = run([("pick", 7)], number)
            self.assertEqual(told, (7, [0]))
            self.assertIsInstance(told, tuple)
            self.assertIsInstance(told[1], list)

    def test_is(self):
        rows = [("is", 3, 2), ("pick", 0), ("pick", 1)]
        self.check(rows, {2: (0, [0, 1]), 3: (1, [0, 2]), 4: (0, [0, 1]), -3: (0, [0, 1])})
        self.check(rows, {number: (0, [0, 1]) for number in FAR})
        self.check([("is", -(10 ** 30), 2)] + rows[1:], {FAR[0]: (1, [0, 2]), FAR[0] + 1: (0, [0, 1])})

    def test_within_has_both_its_ends(self):
        rows = [("within", -2, 5, 2), ("pick", 0), ("pick", 1)]
        self.check(rows, {-3: (0, [0, 1]), -2: (1, [0, 2]), 0: (1, [0, 2]), 5: (1, [0, 2]), 6: (0, [0, 1])})
        self.check(rows, {number: (0, [0, 1]) for number in FAR})

    def test_below(self):
        rows = [("below", -2, 2), ("pick", 0), ("pick", 1)]
        self.check(rows, {-4: (1, [0, 2]), -3: (1, [0, 2]), -2: (0, [0, 1]), -1: (0, [0, 1])})
        self.check(rows, {FAR[0]: (1, [0, 2]), FAR[1]: (1, [0, 2]), FAR[2]: (0, [0, 1]), FAR[3]: (0, [0, 1])})

    def test_mask(self):
        rows = [("mask", -2, 5, 0b10011, 2), ("pick", 0), ("pick", 1)]
        self.check(rows, {-2: (1, [0, 2]), -1: (1, [0, 2]), 0: (0, [0, 1]), 1: (0, [0, 1]), 2: (1, [0, 2])})

    def test_a_mask_of_64_bits(self):
        rows = [("mask", 10, 64, 2 ** 63 + 2, 2), ("pick", 0), ("pick", 1)]
        for number in range(10, 74):
            self.check(rows, {number: (1, [0, 2]) if number in (11, 73) else (0, [0, 1])})

    def test_table(self):
        rows = [("table", -1, (3, 1, 2, 1)), ("pick", 10), ("pick", 20), ("pick", 30)]
        self.check(rows, {-1: (30, [0, 3]), 0: (10, [0, 1]), 1: (20, [0, 2]), 2: (10, [0, 1])})

    def test_the_goal_may_be_the_following_row(self):
        rows = [("is", 3, 1), ("within", 0, 9, 2), ("below", 5, 3), ("mask", 0, 9, 511, 4), ("table", 0, (5,) * 9), ("pick", 2)]
        self.check(rows, {number: (2, [0, 1, 2, 3, 4, 5]) for number in range(9)})

    def test_rows_behind_a_pick_are_not_done(self):
        self.check([("pick", 1), ("is", 0, 2), ("pick", 2)], {0: (1, [0]), 5: (1, [0])})

    def test_all_forms_in_one_run(self):
        rows = [
            ("below", 0, 6), ("within", 10, 99, 3), ("pick", 0), ("table", 10, (4, 8) * 45), ("is", 12, 8),
            ("pick", 1), ("mask", -64, 64, 2 ** 63, 8), ("pick", 3), ("pick", 0),
        ]
        self.check(rows, {
            -1: (0, [0, 6, 8]), -2: (3, [0, 6, 7]), -64: (3, [0, 6, 7]), 5: (0, [0, 1, 2]), 10: (1, [0, 1, 3, 4, 5]),
            11: (0, [0, 1, 3, 8]), 12: (0, [0, 1, 3, 4, 8]),
        })

    def test_against_the_plain_reading(self):
        chance = random.Random(101)
        ended = beyond = 0
        for _ in range(400):
            rows = some_rows(chance, chance.randrange(1, 12), -12, 12, 40)
            for number in list(range(-16, 17)) + list(FAR):
                label, told = plain_run(rows, number)
                if label is None:
                    beyond += 1
                    self.refused(rows, number, told)
                else:
                    ended += 1
                    self.check(rows, {number: (label, told)})
        self.assertGreater(ended, 1000)
        self.assertGreater(beyond, 1000)

    def test_chains_of_2000_rows(self):
        rows = [("is", k, 1999) for k in range(1999)] + [("pick", 5)]
        self.check(rows, {-1: (5, list(range(2000))), 0: (5, [0, 1999]), 1000: (5, list(range(1001)) + [1999])})
        rows = [("below", 0, k + 1) for k in range(1999)] + [("pick", 5)]
        self.check(rows, {-1: (5, list(range(2000))), 0: (5, list(range(2000)))})
        rows = [("table", -1, (k + 1,) * 3) for k in range(1999)] + [("pick", 5)]
        self.check(rows, {1: (5, list(range(2000)))})
        self.refused(rows[:1000] + [("table", -1, (1001,))] + rows[1001:], 1, 1000)


class RefusedRuns(Running):
    def test_a_mask_read_beyond_its_ends(self):
        rows = [("mask", -2, 5, 31, 1), ("pick", 0)]
        for number in (-3, 3) + FAR:
            self.refused(rows, number, 0)
        self.check(rows, {-2: (0, [0, 1]), 2: (0, [0, 1])})

    def test_bits_do_not_matter_beyond(self):
        for bits in (0, 1):
            rows = [("mask", 5, 1, bits, 1), ("pick", 0)]
            self.check(rows, {5: (0, [0, 1])})
            self.refused(rows, 4, 0)
            self.refused(rows, 6, 0)

    def test_a_table_read_beyond_its_ends(self):
        rows = [("table", -1, (1, 2, 1)), ("pick", 0), ("pick", 1)]
        for number in (-2, -3, -4, 2, 3) + FAR:
            self.refused(rows, number, 0)
        self.check(rows, {-1: (0, [0, 1]), 1: (0, [0, 1])})

    def test_just_where_one_is_come_to(self):
        rows = [("below", 0, 2), ("pick", 0), ("is", -5, 5), ("mask", -3, 3, 0, 5), ("table", -3, (5, 5)), ("pick", 1)]
        self.check(rows, {0: (0, [0, 1]), 10 ** 30: (0, [0, 1]), -5: (1, [0, 2, 5]), -2: (1, [0, 2, 3, 4, 5])})
        self.refused(rows, -4, 3)
        self.refused(rows, -6, 3)
        self.refused(rows, -1, 4)

    def test_the_first_row_that_is_read_beyond(self):
        rows = [("is", 0, 1), ("table", 0, (2,)), ("mask", 0, 1, 0, 3), ("pick", 0)]
        self.refused(rows, 1, 1)
        self.check(rows, {0: (0, [0, 1, 2, 3])})

    def test_its_class_and_what_stays_as_it_was(self):
        rows = [("is", 0, 2), ("table", 0, (2, 2)), ("pick", 0)]
        kept = copy.deepcopy(rows)
        error = self.refused(rows, 7, 1)
        self.assertIsInstance(error, CaseError)
        self.assertIsInstance(error, ValueError)
        for refusal in (Twice, TooNarrow, NoStretch, BadText):
            self.assertNotIsInstance(error, refusal)
        self.assertEqual(rows, kept)


class AskedAgain(Running):
    def test_told_lists_are_the_askers_own(self):
        rows = [("is", 3, 2), ("pick", 0), ("pick", 1)]
        kept = list(rows)
        told = run(rows, 3)
        self.assertIsNot(run(rows, 3)[1], told[1])
        told[1].append(99)
        told[1][0] = 98
        self.assertEqual(run(rows, 3), (1, [0, 2]))
        self.assertEqual(rows, kept)

    def test_later_changes_to_rows_change_no_answer(self):
        rows = [("is", 3, 2), ("pick", 0), ("pick", 1)]
        told = run(rows, 3)
        rows[0] = ("pick", 9)
        self.assertEqual(told, (1, [0, 2]))
        self.assertEqual(run(rows, 3), (9, [0]))


if __name__ == "__main__":
    unittest.main()
