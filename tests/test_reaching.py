"""Point [11]: which rows the numbers of a range come to, read beyond, and are led to."""

import copy
import random
import unittest

from caseways.reaching import beyond_of, come_to, leads_right, never_done
from caseways.rowforms import is_rows
from helper import plain_run, plain_spans, some_rows, some_stretches

FAR = 10 ** 30


def rows_done(rows, number):
    """The rows that a number comes to, the one that it reads beyond its ends too."""
    label, told = plain_run(rows, number)
    if label is not None:
        return told
    # Cut short just there, the rows tell the way up to the row that is read beyond.
    return plain_run(rows[:told] + [("pick", 0)] + rows[told + 1:], number)[1]


def plain_come_to(rows, numbers):
    """For each row the spans of the numbers that come to it, number by number."""
    reached = [[] for _ in rows]
    for number in numbers:
        for row in rows_done(rows, number):
            reached[row].append(number)
    return [plain_spans(those) for those in reached]


def plain_beyond(rows, numbers):
    """The first row that is read beyond, and the least of the numbers that does."""
    told = []
    for number in numbers:
        label, row = plain_run(rows, number)
        if label is None:
            told.append((row, number))
    return min(told, default=None)


def plain_leads_right(rows, stretches):
    """Whether each number ends with a pick of its label."""
    for low, high, label in stretches:
        for number in range(low, high + 1):
            if plain_run(rows, number)[0] != label:
                return False
    return True


class Reaching(unittest.TestCase):
    def check(self, rows, low, high, told):
        answer = come_to(rows, low, high)
        self.assertEqual(answer, told, (rows, low, high))
        self.assertEqual(never_done(rows, low, high), [row for row, spans in enumerate(told) if not spans])


class ComeTo(Reaching):
    def test_a_pick_alone(self):
        self.check([("pick", 0)], -3, 9, [[(-3, 9)]])
        self.check([("pick", 0)], -FAR, FAR, [[(-FAR, FAR)]])

    def test_is(self):
        rows = [("is", 3, 2), ("pick", 0), ("pick", 1)]
        self.check(rows, 0, 9, [[(0, 9)], [(0, 2), (4, 9)], [(3, 3)]])
        self.check(rows, 3, 9, [[(3, 9)], [(4, 9)], [(3, 3)]])
        self.check(rows, 0, 3, [[(0, 3)], [(0, 2)], [(3, 3)]])
        self.check(rows, 0, 2, [[(0, 2)], [(0, 2)], []])
        self.check(rows, 4, 9, [[(4, 9)], [(4, 9)], []])
        self.check(rows, -FAR, FAR, [[(-FAR, FAR)], [(-FAR, 2), (4, FAR)], [(3, 3)]])

    def test_within(self):
        rows = [("within", -2, 5, 2), ("pick", 0), ("pick", 1)]
        self.check(rows, -9, 9, [[(-9, 9)], [(-9, -3), (6, 9)], [(-2, 5)]])
        self.check(rows, -2, 5, [[(-2, 5)], [], [(-2, 5)]])
        self.check(rows, 0, 3, [[(0, 3)], [], [(0, 3)]])
        self.check(rows, 5, 6, [[(5, 6)], [(6, 6)], [(5, 5)]])
        self.check(rows, -FAR, -3, [[(-FAR, -3)], [(-FAR, -3)], []])
        self.check(rows, 6, FAR, [[(6, FAR)], [(6, FAR)], []])

    def test_below(self):
        rows = [("below", 4, 2), ("pick", 0), ("pick", 1)]
        self.check(rows, 0, 9, [[(0, 9)], [(4, 9)], [(0, 3)]])
        self.check(rows, 4, 9, [[(4, 9)], [(4, 9)], []])
        self.check(rows, 0, 3, [[(0, 3)], [], [(0, 3)]])
        self.check(rows, -FAR, FAR, [[(-FAR, FAR)], [(4, FAR)], [(-FAR, 3)]])

    def test_mask(self):
        rows = [("mask", -2, 5, 0b10011, 2), ("pick", 0), ("pick", 1)]
        self.check(rows, -2, 2, [[(-2, 2)], [(0, 1)], [(-2, -1), (2, 2)]])
        self.check(rows, -1, 1, [[(-1, 1)], [(0, 1)], [(-1, -1)]])

    def test_table(self):
        rows = [("table", -1, (3, 1, 1, 3, 2, 3)), ("pick", 0), ("pick", 1), ("pick", 2)]
        self.check(rows, -1, 4, [[(-1, 4)], [(0, 1)], [(3, 3)], [(-1, -1), (2, 2), (4, 4)]])

    def test_as_many_side_by_side_as_may_be(self):
        rows = [("is", 5, 3), ("below", 5, 3), ("is", 6, 3), ("pick", 0)]
        self.check(rows, 0, 9, [[(0, 9)], [(0, 4), (6, 9)], [(6, 9)], [(0, 9)]])
        rows = [("mask", 0, 4, 5, 2), ("is", 1, 2), ("pick", 0)]
        self.check(rows, 0, 3, [[(0, 3)], [(1, 1), (3, 3)], [(0, 3)]])

    def test_a_goal_that_is_the_following_row(self):
        rows = [("is", 3, 1), ("within", 0, 4, 2), ("mask", 0, 9, 5, 3), ("table", 0, (4,) * 9), ("pick", 0)]
        self.check(rows, 0, 8, [[(0, 8)]] * 5)

    def test_a_number_that_reads_beyond_goes_nowhere_on(self):
        rows = [("mask", 0, 4, 5, 2), ("pick", 0), ("pick", 1)]
        self.check(rows, -3, 9, [[(-3, 9)], [(1, 1), (3, 3)], [(0, 0), (2, 2)]])
        self.check(rows, 5, 9, [[(5, 9)], [], []])
        rows = [("below", 0, 2), ("table", 0, (3, 2)), ("table", -1, (3,)), ("pick", 0)]
        self.check(rows, -FAR, FAR, [[(-FAR, FAR)], [(0, FAR)], [(-FAR, -1), (1, 1)], [(-1, 0)]])

    def test_low_and_high_alike(self):
        rows = [("is", 3, 2), ("below", 3, 3), ("pick", 0), ("pick", 1)]
        self.check(rows, 3, 3, [[(3, 3)], [], [(3, 3)], []])
        self.check(rows, 2, 2, [[(2, 2)], [(2, 2)], [], [(2, 2)]])
        self.check(rows, FAR, FAR, [[(FAR, FAR)], [(FAR, FAR)], [(FAR, FAR)], []])

    def test_number_by_number_on_small_ranges(self):
        chance = random.Random(111)
        for _ in range(600):
            rows = some_rows(chance, chance.randrange(1, 14), -10, 10, chance.choice([24, 48]))
            self.assertIs(is_rows(rows), True)
            low = chance.randrange(-14, 14)
            high = chance.randrange(low, 15)
            self.check(rows, low, high, plain_come_to(rows, range(low, high + 1)))

    def test_ranges_far_too_wide_to_go_over(self):
        chance = random.Random(112)
        for _ in range(200):
            rows = some_rows(chance, chance.randrange(1, 14), -10, 10, 48)
            small = come_to(rows, -200, 200)
            wide = {-200: -FAR, 200: FAR}
            told = [[(wide.get(low, low), wide.get(high, high)) for low, high in spans] for spans in small]
            self.check(rows, -FAR, FAR, told)

    def test_rows_of_wide_numbers(self):
        step = 2 ** 33
        rows = [("within", k * step, (k + 1) * step - 2, 31) for k in range(30)] + [("pick", 0), ("pick", 1)]
        told = come_to(rows, 0, 2 ** 40 - 1)
        self.assertEqual(told[31], [(k * step, (k + 1) * step - 2) for k in range(30)])
        gaps = [(k * step - 1, k * step - 1) for k in range(1, 30)]
        self.assertEqual(told[30], gaps + [(30 * step - 1, 2 ** 40 - 1)])

    def test_2000_rows(self):
        rows = [("is", 2 * k, 1999) for k in range(1999)] + [("pick", 5)]
        told = come_to(rows, -FAR, FAR)
        self.assertEqual(told[1], [(-FAR, -1), (1, FAR)])
        self.assertEqual(len(told[1998]), 1999)
        self.assertEqual(told[1999], [(-FAR, FAR)])
        self.assertEqual(never_done(rows, 1, 1), [])
        self.assertEqual(never_done(rows, 8, 8), list(range(5, 1999)))


class BeyondOf(unittest.TestCase):
    def check(self, rows, low, high, told):
        answer = beyond_of(rows, low, high)
        self.assertEqual(answer, told, (rows, low, high))
        if told is not None:
            self.assertIsInstance(answer, tuple)

    def test_none(self):
        self.check([("pick", 0)], -FAR, FAR, None)
        self.check([("is", 1, 2), ("pick", 0), ("pick", 1)], -FAR, FAR, None)

    def test_ahead_of_and_behind_a_mask(self):
        rows = [("mask", -2, 5, 19, 1), ("pick", 0)]
        self.check(rows, -2, 2, None)
        self.check(rows, -3, 2, (0, -3))
        self.check(rows, -FAR, 2, (0, -FAR))
        self.check(rows, -2, 3, (0, 3))
        self.check(rows, 0, FAR, (0, 3))
        self.check(rows, -3, FAR, (0, -3))
        self.check(rows, 7, 9, (0, 7))
        self.check(rows, -9, -7, (0, -9))

    def test_ahead_of_and_behind_a_table(self):
        rows = [("table", 10, (1, 2, 1)), ("pick", 0), ("pick", 1)]
        self.check(rows, 10, 12, None)
        self.check(rows, 9, 12, (0, 9))
        self.check(rows, 10, 13, (0, 13))
        self.check(rows, 12, FAR, (0, 13))
        self.check(rows, 50, FAR, (0, 50))

    def test_low_and_high_alike(self):
        rows = [("table", 10, (1,)), ("pick", 0)]
        self.check(rows, 10, 10, None)
        self.check(rows, 9, 9, (0, 9))
        self.check(rows, 11, 11, (0, 11))

    def test_the_first_row_not_the_least_number(self):
        rows = [("below", 50, 2), ("table", 50, (3, 3)), ("table", 40, (3, 3)), ("pick", 0)]
        self.check(rows, 0, 99, (1, 52))
        self.check(rows, 0, 51, (2, 0))
        self.check(rows, 41, 99, (1, 52))

    def test_a_row_that_none_comes_to_is_not_read_beyond(self):
        rows = [("within", 0, 9, 2), ("pick", 0), ("is", 5, 4), ("pick", 1), ("table", 5, (5,)), ("pick", 2)]
        self.check(rows, -FAR, FAR, None)

    def test_with_a_gap_about_the_ends(self):
        rows = [("within", 0, 9, 3), ("mask", -1, 1, 1, 3), ("pick", 0), ("pick", 1)]
        self.check(rows, -1, 9, None)
        self.check(rows, -1, 12, (1, 10))
        self.check(rows, -2, 12, (1, -2))

    def test_number_by_number_on_small_ranges(self):
        chance = random.Random(113)
        some = 0
        for _ in range(800):
            rows = some_rows(chance, chance.randrange(1, 14), -10, 10, chance.choice([24, 48, 60]))
            low = chance.randrange(-14, 14)
            high = chance.randrange(low, 15)
            told = plain_beyond(rows, range(low, high + 1))
            self.check(rows, low, high, told)
            some += told is None
        self.assertGreater(some, 100)
        self.assertLess(some, 700)


class NeverDone(unittest.TestCase):
    def test_rows_that_none_comes_to(self):
        rows = [("is", 3, 3), ("pick", 0), ("is", 9, 3), ("pick", 1), ("pick", 2)]
        self.assertEqual(never_done(rows, 0, 9), [2, 4])
        self.assertEqual(never_done(rows, 4, 9), [2, 3, 4])
        self.assertEqual(never_done(rows, 3, 3), [1, 2, 4])

    def test_all_are_done(self):
        self.assertEqual(never_done([("pick", 0)], 0, 0), [])
        self.assertEqual(never_done([("below", 0, 2), ("pick", 0), ("pick", 1)], -FAR, FAR), [])

    def test_what_only_a_number_beyond_would_come_to(self):
        rows = [("mask", 0, 4, 0, 2), ("pick", 0), ("pick", 1)]
        self.assertEqual(never_done(rows, 0, 9), [2])
        self.assertEqual(never_done(rows, 4, 9), [1, 2])


class LeadsRight(unittest.TestCase):
    def check(self, rows, stretches, told):
        self.assertIs(leads_right(rows, stretches), told, (rows, stretches))

    def test_one_stretch(self):
        self.check([("pick", 4)], [(-FAR, FAR, 4)], True)
        self.check([("pick", 4)], [(-FAR, FAR, 5)], False)
        self.check([("pick", 4)], [(0, 0, 4)], True)

    def test_rows_of_all_forms(self):
        stretches = [(-9, -1, 1), (0, 0, 0), (1, 5, 2), (6, 6, 0), (7, 99, 1), (100, FAR, 0)]
        rows = [
            ("within", 100, FAR, 6), ("below", 0, 4), ("table", 0, (6,) + (5,) * 5 + (6,) + (4,) * 93),
            ("pick", 3), ("pick", 1), ("pick", 2), ("pick", 0),
        ]
        self.check(rows, stretches, True)
        rows[2] = ("table", 0, (6,) + (5,) * 5 + (6,) + (4,) * 92)
        self.check(rows, stretches, False)
        rows[2] = ("table", 0, (6,) + (5,) * 5 + (6,) + (4,) * 92 + (6,))
        self.check(rows, stretches, False)
        rows[2] = ("table", 0, (6,) + (5,) * 5 + (6,) + (4,) * 93 + (3,) * 9)
        self.check(rows, stretches, True)

    def test_one_wrong_label(self):
        stretches = [(-FAR, 4, 0), (5, 5, 1), (6, FAR, 0)]
        self.check([("is", 5, 2), ("pick", 0), ("pick", 1)], stretches, True)
        self.check([("is", 5, 2), ("pick", 1), ("pick", 0)], stretches, False)
        self.check([("is", 4, 2), ("pick", 0), ("pick", 1)], stretches, False)
        self.check([("within", 5, 6, 2), ("pick", 0), ("pick", 1)], stretches, False)
        self.check([("within", 4, 5, 2), ("pick", 0), ("pick", 1)], stretches, False)
        self.check([("is", 5, 2), ("pick", 0), ("pick", 2)], stretches, False)
        self.check([("pick", 0)], stretches, False)

    def test_one_number_read_beyond(self):
        stretches = [(0, 3, 0), (4, 4, 1), (5, 9, 0)]
        self.check([("mask", 0, 10, 16, 2), ("pick", 0), ("pick", 1)], stretches, True)
        self.check([("mask", 0, 9, 16, 2), ("pick", 0), ("pick", 1)], stretches, False)
        self.check([("mask", 1, 10, 8, 2), ("pick", 0), ("pick", 1)], stretches, False)
        self.check([("mask", -3, 20, 128, 2), ("pick", 0), ("pick", 1)], stretches, True)

    def test_numbers_that_no_stretch_has_do_not_matter(self):
        rows = [("below", 0, 3), ("below", 5, 4), ("pick", 1), ("table", -1, (4,)), ("pick", 0)]
        self.check(rows, [(0, 4, 0), (5, 9, 1)], True)
        self.check(rows, [(-1, 4, 0), (5, 9, 1)], True)
        self.check(rows, [(-2, 4, 0), (5, 9, 1)], False)
        self.check(rows, [(-1, 4, 0)], True)

    def test_picks_that_none_comes_to_do_not_matter(self):
        self.check([("is", 50, 2), ("pick", 0), ("pick", 7)], [(0, 9, 0)], True)
        self.check([("is", 9, 2), ("pick", 0), ("pick", 7)], [(0, 9, 0)], False)

    def test_number_by_number_on_small_ranges(self):
        chance = random.Random(114)
        right = 0
        for _ in range(800):
            stretches = some_stretches(chance, chance.randrange(1, 6), 3, 5, chance.randrange(-6, 6))
            low, high = stretches[0][0], stretches[-1][1]
            rows = [("table", low, tuple(number - low + 1 for number in range(low, high + 1)))]
            rows += [("pick", label) for one, last, label in stretches for _ in range(one, last + 1)]
            if chance.randrange(2):
                place = chance.randrange(1, len(rows))
                rows[place] = ("pick", chance.randrange(3))
            if not chance.randrange(3):
                rows[0] = ("table", low + chance.randrange(-1, 2), rows[0][2])
            told = plain_leads_right(rows, stretches)
            right += told
            self.check(rows, stretches, told)
        self.assertGreater(right, 100)
        self.assertLess(right, 700)

    def test_any_rows_number_by_number(self):
        chance = random.Random(115)
        right = 0
        for _ in range(1500):
            stretches = some_stretches(chance, chance.randrange(1, 3), 3, 3, chance.randrange(-6, 6))
            rows = some_rows(chance, chance.randrange(1, 6), -6, 12, 48)
            told = plain_leads_right(rows, stretches)
            right += told
            self.check(rows, stretches, told)
        self.assertGreater(right, 100)


class AskedAgain(unittest.TestCase):
    def test_nothing_handed_in_is_changed(self):
        rows = [("is", 3, 3), ("mask", 0, 9, 3, 3), ("pick", 0), ("pick", 1)]
        stretches = [(0, 1, 1), (2, 2, 0), (3, 3, 1), (4, 8, 0)]
        kept = copy.deepcopy((rows, stretches))
        for _ in range(2):
            self.assertEqual(come_to(rows, 0, 8)[3], [(0, 1), (3, 3)])
            self.assertEqual(beyond_of(rows, 0, 9), (1, 9))
            self.assertEqual(never_done(rows, 0, 1), [2])
            self.assertIs(leads_right(rows, stretches), True)
            self.assertEqual((rows, stretches), kept)

    def test_told_lists_are_the_askers_own(self):
        rows = [("is", 3, 3), ("is", 4, 3), ("pick", 0), ("pick", 1), ("pick", 2), ("pick", 3)]
        told = come_to(rows, 0, 9)
        kept = copy.deepcopy(told)
        lists = [told] + told + come_to(rows, 0, 9)
        self.assertEqual(len({id(one) for one in lists}), len(lists))
        for spans in told:
            spans.append((99, 99))
        told.append([])
        self.assertEqual(come_to(rows, 0, 9), kept)
        never = never_done(rows, 0, 9)
        never.append(99)
        self.assertEqual(never_done(rows, 0, 9), [4, 5])

    def test_pairs_are_tuples(self):
        for spans in come_to([("is", 3, 2), ("pick", 0), ("pick", 1)], 0, 9):
            self.assertIsInstance(spans, list)
            for pair in spans:
                self.assertIsInstance(pair, tuple)
                self.assertEqual(len(pair), 2)


if __name__ == "__main__":
    unittest.main()
