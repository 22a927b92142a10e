"""Point [12]: the rows made of plans."""

import copy
import random
import unittest

from caseways.machine import run
from caseways.plans import is_plan, rows_of
from caseways.reaching import beyond_of, leads_right
from caseways.rowforms import is_rows
from helper import across, all_of, plain_run, plain_way, some_plan, some_stretches


def some_numbers(stretch):
    """Numbers of a stretch: both its ends and those beside them, or all of a small one."""
    low, high, _ = stretch
    if high - low < 12:
        return range(low, high + 1)
    return (low, low + 1, (low + high) // 2, high - 1, high)


class RowsOf(unittest.TestCase):
    def check_test(self, stretches, row, test):
        """A row does the very test of a plan, by the span that is left there."""
        word, which, left = test
        self.assertEqual(row[0], word)
        first = stretches[left[0]][0]
        if word == "is":
            self.assertEqual(row[1], stretches[which][0])
        elif word == "within":
            self.assertEqual(row[1:3], stretches[which][:2])
        elif word == "below":
            self.assertEqual(row[1], stretches[which][0])
        elif word == "mask":
            self.assertEqual(row[1:3], (first, across(stretches, left)))
            for k in left:
                low, high, label = stretches[k]
                for number in range(low, high + 1):
                    self.assertEqual(row[3] >> (number - first) & 1, label == which)
        else:
            self.assertEqual((row[1], len(row[2])), (first, across(stretches, left)))

    def check(self, stretches, plan):
        rows = rows_of(stretches, plan)
        self.assertIsInstance(rows, list)
        self.assertIs(is_rows(rows), True, (stretches, plan))
        self.assertIs(leads_right(rows, stretches), True, (stretches, plan))
        self.assertIs(beyond_of(rows, stretches[0][0], stretches[-1][1]), None)
        for k, stretch in enumerate(stretches):
            way = plain_way(stretches, plan, k)
            for number in some_numbers(stretch):
                label, done = plain_run(rows, number)
                self.assertEqual(label, stretch[2], (stretches, plan, number))
                self.assertEqual(run(rows, number), (label, done))
                self.assertEqual(len(done), len(way) + 1, (stretches, plan, number))
                self.assertEqual(rows[done[-1]], ("pick", stretch[2]))
                for row, test in zip(done, way):
                    self.check_test(stretches, rows[row], test)
        return rows

    def test_a_pick(self):
        self.assertEqual(self.check([(0, 9, 4)], ("pick", 4)), [("pick", 4)])

    def test_a_table_for_one(self):
        self.check([(0, 9, 4)], ("table",))
        self.check([(5, 5, 0)], ("table",))
        self.check([(-99, 100, 0)], ("table",))

    def test_each_test_alone(self):
        row = [(-2, 3, 0), (4, 4, 1), (5, 9, 0)]
        self.check(row, ("is", 1, ("pick", 0)))
        self.check(row, ("within", 1, ("pick", 0)))
        self.check(row, ("mask", 1, ("pick", 0)))
        self.check(row, ("mask", 0, ("pick", 1)))
        self.check(row, ("table",))
        self.check(row, ("below", 1, ("pick", 0), ("below", 2, ("pick", 1), ("pick", 0))))
        self.check(row, ("below", 2, ("below", 1, ("pick", 0), ("pick", 1)), ("pick", 0)))

    def test_a_number_of_the_tested_stretch_does_that_test_too(self):
        row = [(-2, 3, 0), (4, 4, 1), (5, 9, 2)]
        rows = rows_of(row, ("is", 1, ("within", 2, ("pick", 0))))
        for number, words in ((4, ["is", "pick"]), (5, ["is", "within", "pick"]), (0, ["is", "within", "pick"])):
            self.assertEqual([rows[done][0] for done in plain_run(rows, number)[1]], words)
        rows = rows_of(row, ("mask", 2, ("mask", 1, ("pick", 0))))
        for number, words in ((9, ["mask", "pick"]), (4, ["mask", "mask", "pick"]), (3, ["mask", "mask", "pick"])):
            self.assertEqual([rows[done][0] for done in plain_run(rows, number)[1]], words)

    def test_a_mask_has_the_bits_of_its_own_span(self):
        row = [(0, 99, 0), (100, 101, 1), (102, 102, 2), (103, 105, 1), (106, 109, 2), (110, 999, 0)]
        plan = ("within", 0, ("within", 5, ("within", 2, ("mask", 1, ("pick", 2)))))
        masks = [part for part in self.check(row, plan) if part[0] == "mask"]
        self.assertEqual(len(masks), 1)
        self.assertEqual(masks[0][1:3], (100, 10))
        self.assertEqual(masks[0][3] & ~4, 0b111011)

    def test_a_mask_of_64_numbers(self):
        self.check([(-3, 0, 0), (1, 59, 1), (60, 60, 0)], ("mask", 0, ("pick", 1)))
        self.check([(-3, 0, 0), (1, 59, 1), (60, 60, 0)], ("mask", 1, ("pick", 0)))
        self.check([(k, k, k % 2) for k in range(64)], ("mask", 1, ("pick", 0)))
        self.check([(0, 62, 0), (63, 63, 1)], ("mask", 1, ("pick", 0)))

    def test_a_table_has_the_places_of_its_own_span(self):
        row = [(0, 999, 0), (1000, 1001, 1), (1002, 1100, 2), (1101, 1199, 3), (1200, 9999, 0)]
        rows = self.check(row, ("within", 0, ("within", 4, ("within", 2, ("table",)))))
        tables = [part for part in rows if part[0] == "table"]
        self.assertEqual(len(tables), 1)
        self.assertEqual((tables[0][1], len(tables[0][2])), (1000, 200))

    def test_tables_and_masks_behind_halves(self):
        row = [(0, 99, 0), (100, 150, 1), (151, 299, 2), (300, 310, 0), (311, 311, 1), (312, 340, 2)]
        self.check(row, ("below", 3, ("below", 2, ("table",), ("pick", 2)), ("mask", 1, ("mask", 0, ("pick", 2)))))
        self.check(row, ("below", 2, ("table",), ("below", 3, ("table",), ("table",))))
        self.check(row, ("below", 3, ("within", 0, ("table",)), ("is", 4, ("table",))))

    def test_a_table_behind_a_mask_that_leaves_gaps(self):
        row = [(0, 9, 0), (10, 19, 1), (20, 29, 0), (30, 39, 2), (40, 49, 0), (50, 59, 1), (60, 60, 0)]
        self.check(row, ("mask", 0, ("table",)))
        self.check(row, ("mask", 1, ("table",)))
        self.check(row, ("mask", 0, ("mask", 2, ("table",))))

    def test_plans_of_any_make(self):
        chance = random.Random(125)
        for _ in range(500):
            row = some_stretches(chance, chance.randrange(1, 12), chance.randrange(2, 6), chance.choice([2, 8, 40]))
            plan = some_plan(chance, row, all_of(row))
            self.assertIs(is_plan(row, plan), True)
            self.check(row, plan)

    def test_60_stretches(self):
        chance = random.Random(126)
        for wide in (2, 5, 40, 2 ** 33):
            for _ in range(8):
                row = some_stretches(chance, 60, chance.randrange(2, 9), wide)
                rows = self.check(row, some_plan(chance, row, all_of(row)))
                self.assertLess(len(rows), 2000)

    def test_plans_as_deep_as_there_are_stretches(self):
        for many in (60, 400):
            row = [(k, k, 1 + k % 2) for k in range(many)]
            plan = ("pick", row[-1][2])
            for k in reversed(range(many - 1)):
                plan = ("is", k, plan)
            self.check(row, plan)
            plan = ("pick", row[-1][2])
            for k in reversed(range(many - 1)):
                plan = ("below", k + 1, ("pick", row[k][2]), plan)
            self.check(row, plan)
            plan = ("pick", row[0][2])
            for k in range(1, many):
                plan = ("below", k, plan, ("pick", row[k][2]))
            self.check(row, plan)

    def test_no_row_is_never_done(self):
        chance = random.Random(127)
        for _ in range(100):
            row = some_stretches(chance, chance.randrange(1, 9), 3, 8)
            rows = rows_of(row, some_plan(chance, row, all_of(row)))
            done = {one for low, high, _ in row for number in range(low, high + 1) for one in plain_run(rows, number)[1]}
            self.assertEqual(sorted(done), list(range(len(rows))))


class AskedAgain(unittest.TestCase):
    def test_nothing_handed_in_is_changed(self):
        row = [(-2, 3, 0), (4, 4, 1), (5, 9, 2)]
        plan = ("is", 1, ("mask", 0, ("pick", 2)))
        kept = copy.deepcopy((row, plan))
        first = rows_of(row, plan)
        self.assertEqual(rows_of(row, plan), first)
        self.assertEqual((row, plan), kept)

    def test_told_lists_are_the_askers_own(self):
        row = [(-2, 3, 0), (4, 4, 1), (5, 9, 2)]
        plan = ("is", 1, ("table",))
        told = rows_of(row, plan)
        kept = list(told)
        told.append(99)
        told[0] = None
        self.assertEqual(rows_of(row, plan), kept)

    def test_later_changes_to_stretches_change_no_rows(self):
        row = [(-2, 3, 0), (4, 4, 1)]
        told = rows_of(row, ("table",))
        kept = list(told)
        row[1] = (4, 9, 2)
        self.assertEqual(told, kept)


if __name__ == "__main__":
    unittest.main()
