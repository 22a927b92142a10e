"""Point [8]: what a row of stretches is."""

import copy
import random
import unittest

from caseways.stretches import is_stretches, stretches_of
from helper import KINDS, ODD_THINGS, some_bits_choice, some_cut_choice, some_stretches

RIGHT = [(-5, -1, 2), (0, 0, 0), (1, 7, 2), (8, 9, 1)]


class Looking(unittest.TestCase):
    def yes(self, thing):
        self.assertIs(is_stretches(thing), True, thing)

    def no(self, thing):
        self.assertIs(is_stretches(thing), False, thing)

    def no_in_each_place(self, make):
        """A right row of stretches with one of them made into something else."""
        for place, stretch in enumerate(RIGHT):
            self.no(RIGHT[:place] + [make(stretch)] + RIGHT[place + 1:])


class IsStretches(Looking):
    def test_what_stretches_of_tells(self):
        chance = random.Random(81)
        for width, sign in KINDS:
            self.yes(stretches_of(some_cut_choice(chance, width, sign, 5, 20)))
            self.yes(stretches_of(some_bits_choice(chance, width, sign, 5)))

    def test_rows_of_any_make(self):
        chance = random.Random(82)
        self.yes(RIGHT)
        for many in range(1, 30):
            self.yes(some_stretches(chance, many, 5, 9))

    def test_one_stretch(self):
        self.yes([(0, 0, 0)])
        self.yes([(-3, -3, 7)])
        self.yes([(-3, 10 ** 30, 7)])

    def test_a_label_may_come_again_but_not_as_a_neighbour(self):
        self.yes([(0, 0, 1), (1, 1, 0), (2, 2, 1)])
        self.no([(0, 0, 1), (1, 1, 1)])
        self.no([(0, 0, 0), (1, 1, 0), (2, 2, 1)])
        self.no([(0, 0, 0), (1, 1, 1), (2, 2, 1)])

    def test_an_empty_list(self):
        self.no([])

    def test_low_above_high(self):
        self.yes([(4, 4, 0)])
        self.no([(5, 4, 0)])
        self.no([(0, 5, 0), (6, 5, 1)])
        self.no([(0, 5, 0), (6, 5, 1), (6, 9, 0)])
        self.no([(0, -1, 0), (0, 5, 1)])

    def test_a_gap(self):
        self.no([(0, 3, 0), (5, 9, 1)])
        self.no([(0, 3, 0), (4, 9, 1), (11, 12, 0)])
        self.no([(0, 3, 0), (10 ** 20, 10 ** 21, 1)])

    def test_an_overlap(self):
        self.no([(0, 3, 0), (3, 9, 1)])
        self.no([(0, 3, 0), (0, 3, 1)])
        self.no([(0, 3, 0), (4, 9, 1), (8, 12, 0)])
        self.no([(4, 9, 1), (0, 3, 0)])

    def test_a_label_below_0(self):
        self.no([(0, 3, -1)])
        self.no_in_each_place(lambda stretch: stretch[:2] + (-1,))
        self.no_in_each_place(lambda stretch: stretch[:2] + (-(10 ** 20),))

    def test_true_and_false_are_no_numbers(self):
        for truth in (True, False):
            self.no([(truth, 5, 0)])
            self.no([(0, truth, 0)])
            self.no([(-3, truth, 0)])
            self.no([(0, 5, truth)])
            self.no_in_each_place(lambda stretch: stretch[:2] + (truth,))
        self.no([(0, 0, 0), (True, 1, 1)])
        self.no([(0, 0, 0), (1, True, 1)])
        self.no([(0, False, 0), (1, 1, 1)])

    def test_a_list_for_a_tuple(self):
        self.no([[0, 3, 0]])
        self.no_in_each_place(list)

    def test_a_tuple_for_a_list(self):
        self.no(tuple(RIGHT))
        self.no(((0, 3, 0),))
        self.no((0, 3, 0))
        self.no(())

    def test_a_part_too_few_or_too_many(self):
        self.no([()])
        self.no([(0,)])
        self.no([(0, 3)])
        self.no([(0, 3, 0, 0)])
        self.no_in_each_place(lambda stretch: stretch[:2])
        self.no_in_each_place(lambda stretch: stretch + (0,))
        self.no_in_each_place(lambda stretch: stretch + (None,))

    def test_things_of_other_makes(self):
        for odd in ODD_THINGS + ["abc", ("pick", 0), [("pick", 0)], [(8, 0, [])], (8, 0, [])]:
            self.no(odd)
            self.no([odd])
            self.no([(0, 3, 0), odd])
            self.no([(odd, 3, 0)])
            self.no([(0, odd, 0)])
            self.no([(0, 3, odd)])
            self.no_in_each_place(lambda stretch: odd)
        for number in (0, 7, -1, 10 ** 30):
            self.no(number)
            self.no([number])
            self.no_in_each_place(lambda stretch: number)

    def test_no_bound_is_looked_at(self):
        self.yes([(low, low, low % 2) for low in range(5000)])
        self.yes([(0, 2 ** 100, 10 ** 50), (2 ** 100 + 1, 2 ** 200, 100)])
        self.yes([(-(2 ** 100), -5, 0)])

    def test_nothing_handed_in_is_changed(self):
        for thing in (copy.deepcopy(RIGHT), [[0, 3, [1, 2]], None], [(0, 3, [4, (5,)])]):
            kept = copy.deepcopy(thing)
            told = is_stretches(thing)
            self.assertEqual(thing, kept)
            self.assertIs(is_stretches(thing), told)


if __name__ == "__main__":
    unittest.main()
