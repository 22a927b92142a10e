"""Point [5]: what a choice is, and which case a number goes to."""

import copy
import random
import unittest

from caseways.choices import is_choice, picked, picks
from helper import (
    KINDS,
    ODD_THINGS,
    SMALL_KINDS,
    all_items,
    edges_of,
    numbers_of_kind,
    plain_picked,
    plain_picks,
    some_choice,
)

class Looking(unittest.TestCase):
    def yes(self, thing):
        self.assertIs(is_choice(thing), True, thing)

    def no(self, thing):
        self.assertIs(is_choice(thing), False, thing)

    def no_item(self, thing, width=8, sign=0):
        """Neither alone, nor behind a right item, nor in a later case."""
        self.no((width, sign, [[thing]]))
        self.no((width, sign, [[("is", 0), thing]]))
        self.no((width, sign, [[thing, ("is", 0)]]))
        self.no((width, sign, [[("is", 0)], [], [thing]]))


class IsChoice(Looking):
    def test_cases_and_items_may_be_empty(self):
        self.yes((8, 0, []))
        self.yes((8, 1, [[]]))
        self.yes((1, 0, [[], [("is", 0)], []]))

    def test_all_forms_of_items(self):
        self.yes((8, 0, [[("is", 3), ("from", 4, 9), ("bits", 3, 1)], [("is", 3)]]))
        self.yes((8, 1, [[("is", -3)], [("from", -4, 9)], [("bits", 128, 128)]]))

    def test_all_items_of_small_kinds(self):
        for width, sign in SMALL_KINDS[:6]:
            self.yes((width, sign, [all_items(width, sign)]))

    def test_numbers_at_both_ends_of_all_kinds(self):
        for width, sign in KINDS:
            kind = numbers_of_kind(width, sign)
            low, high, full = kind[0], kind[-1], 2 ** width - 1
            self.yes((width, sign, [[("is", low)], [("is", high)]]))
            self.yes((width, sign, [[("from", low, high), ("from", low, low), ("from", high, high)]]))
            self.yes((width, sign, [[("bits", full, full), ("bits", 0, 0), ("bits", 0, full)]]))

    def test_a_value_may_have_bits_that_the_mask_has_not(self):
        self.yes((8, 0, [[("bits", 1, 2)]]))

    def test_no_bound_is_looked_at(self):
        self.yes((8, 0, [[("is", 5)] for _ in range(500)]))
        self.yes((8, 0, [[("is", 5)] * 500]))
        self.yes((40, 1, [[("bits", 1, 1)]]))

    def test_numbers_one_beyond_the_kind(self):
        for width, sign in KINDS:
            kind = numbers_of_kind(width, sign)
            low, high, full = kind[0], kind[-1], 2 ** width - 1
            for thing in (
                ("is", low - 1),
                ("is", high + 1),
                ("from", low - 1, high),
                ("from", low, high + 1),
                ("from", high, low),
                ("from", low - 1, low - 1),
                ("from", high + 1, high + 1),
                ("bits", full + 1, 0),
                ("bits", full, full + 1),
                ("bits", -1, 0),
                ("bits", 0, -1),
            ):
                self.no_item(thing, width, sign)

    def test_low_above_high(self):
        self.no_item(("from", 5, 4))
        self.no_item(("from", -4, -5), 8, 1)
        self.no_item(("from", 1, -1), 8, 1)

    def test_widths_and_signs_beyond_their_bounds(self):
        for width in (-8, -1, 0, 41, 42, 64, 10 ** 50):
            self.no((width, 0, []))
            self.no((width, 1, []))
            self.no((width, 0, [[("is", 0)]]))
        for sign in (-1, 2, 10 ** 50):
            self.no((8, sign, []))

    def test_true_and_false_are_no_numbers(self):
        for truth in (True, False):
            self.no((truth, 0, []))
            self.no((8, truth, []))
            for sign in (0, 1):
                self.no_item(("is", truth), 8, sign)
                self.no_item(("from", truth, 5), 8, sign)
                self.no_item(("from", 0, truth), 8, sign)
                self.no_item(("bits", truth, 0), 8, sign)
                self.no_item(("bits", 1, truth), 8, sign)

    def test_a_list_for_a_tuple(self):
        self.no([8, 0, []])
        self.no([8, 0, [[("is", 0)]]])
        self.no_item(["is", 0])
        self.no_item(["from", 0, 1])
        self.no_item(["bits", 0, 1])

    def test_a_tuple_for_a_list(self):
        self.no((8, 0, ()))
        self.no((8, 0, ([],)))
        self.no((8, 0, [()]))
        self.no((8, 0, [[], (("is", 0),)]))

    def test_a_part_too_few_or_too_many(self):
        for thing in ((), (8,), (8, 0), (8, 0, [], []), (8, 0, [], None)):
            self.no(thing)
        for thing in (
            (),
            ("is",),
            ("is", 1, 1),
            ("from",),
            ("from", 1),
            ("from", 1, 1, 1),
            ("bits",),
            ("bits", 1),
            ("bits", 1, 1, 1),
        ):
            self.no_item(thing)

    def test_another_word(self):
        for word in ("", "IS", "Is", "is ", " is", "i", "in", "within", "From", "bit", "bits\n", 0, 1):
            self.no_item((word, 0))
            self.no_item((word, 0, 0))
        for word in ODD_THINGS:
            self.no_item((word, 0, 0))
            if word != "is":
                self.no_item((word, 0))

    def test_odd_things_in_each_place(self):
        for odd in ODD_THINGS:
            self.no(odd)
            self.no((odd, 0, []))
            self.no((8, odd, []))
            if odd != []:
                self.no((8, 0, odd))
                self.no((8, 0, [odd]))
                self.no((8, 0, [[], odd]))
            if odd != ("is", 0):
                self.no_item(odd)
            self.no_item(("is", odd))
            for word in ("from", "bits"):
                self.no_item((word, odd, 5))
                self.no_item((word, 0, odd))

    def test_numbers_and_texts_that_are_no_choice(self):
        for thing in (0, 8, -1, 10 ** 50, "abc", "choice 8 0", [8], ("is", 0), [("is", 0)]):
            self.no(thing)
            self.no((8, 0, thing))


class Picks(unittest.TestCase):
    def check(self, width, sign, item, numbers):
        told = [number for number in numbers_of_kind(width, sign) if picks(width, item, number)]
        self.assertEqual(told, numbers, (width, sign, item))

    def test_a_single_number(self):
        self.check(4, 0, ("is", 9), [9])
        self.check(4, 1, ("is", -8), [-8])
        self.check(1, 1, ("is", -1), [-1])

    def test_a_range_has_both_its_ends(self):
        self.check(4, 0, ("from", 5, 8), [5, 6, 7, 8])
        self.check(4, 0, ("from", 5, 5), [5])
        self.check(4, 1, ("from", -2, 1), [-2, -1, 0, 1])
        self.check(3, 1, ("from", -4, 3), [-4, -3, -2, -1, 0, 1, 2, 3])

    def test_bits(self):
        self.check(4, 0, ("bits", 3, 2), [2, 6, 10, 14])
        self.check(4, 0, ("bits", 8, 0), [0, 1, 2, 3, 4, 5, 6, 7])
        self.check(3, 0, ("bits", 7, 5), [5])
        self.check(3, 0, ("bits", 0, 0), [0, 1, 2, 3, 4, 5, 6, 7])

    def test_bits_of_numbers_below_0_are_those_of_their_patterns(self):
        self.check(4, 1, ("bits", 8, 8), [-8, -7, -6, -5, -4, -3, -2, -1])
        self.check(4, 1, ("bits", 3, 2), [-6, -2, 2, 6])
        self.check(4, 1, ("bits", 15, 15), [-1])

    def test_a_value_with_bits_that_the_mask_has_not_picks_none(self):
        self.check(4, 0, ("bits", 1, 2), [])
        self.check(4, 1, ("bits", 1, 3), [])
        self.check(4, 1, ("bits", 0, 8), [])

    def test_all_items_of_small_kinds(self):
        for width, sign in SMALL_KINDS[:6]:
            for item in all_items(width, sign):
                for number in numbers_of_kind(width, sign):
                    told = picks(width, item, number)
                    self.assertIs(told, plain_picks(width, item, number), (width, item, number))

    def test_wide_kinds(self):
        self.assertIs(picks(40, ("bits", 2 ** 39, 2 ** 39), -(2 ** 39)), True)
        self.assertIs(picks(40, ("bits", 2 ** 39, 2 ** 39), 2 ** 39 - 1), False)
        self.assertIs(picks(40, ("bits", 2 ** 39 + 1, 2 ** 39 + 1), -1), True)
        self.assertIs(picks(40, ("is", -(2 ** 39)), -(2 ** 39)), True)
        self.assertIs(picks(40, ("from", 0, 2 ** 40 - 1), 2 ** 40 - 1), True)


class Picked(unittest.TestCase):
    def test_the_first_case_goes(self):
        choice = (4, 0, [[("is", 3)], [("from", 2, 5)], [("bits", 1, 1), ("is", 2)]])
        told = [picked(choice, number) for number in range(16)]
        self.assertEqual(told, [3, 2, 1, 0, 1, 1, 3, 2, 3, 2, 3, 2, 3, 2, 3, 2])

    def test_any_item_of_a_case_will_do(self):
        choice = (4, 1, [[], [("is", -8), ("is", 7), ("bits", 15, 15)]])
        told = [picked(choice, number) for number in (-8, -7, -1, 0, 7)]
        self.assertEqual(told, [1, 2, 1, 2, 1])

    def test_the_rest_is_how_many_cases_there_are(self):
        self.assertEqual(picked((8, 0, []), 0), 0)
        self.assertEqual(picked((8, 1, []), -128), 0)
        self.assertEqual(picked((8, 0, [[], []]), 255), 2)
        self.assertEqual(picked((8, 0, [[("is", 5)]] * 30), 6), 30)

    def test_against_the_plain_reading(self):
        chance = random.Random(5)
        for width, sign in KINDS:
            for _ in range(5):
                choice = some_choice(chance, width, sign, 4, 3)
                for number in edges_of(choice)[:60]:
                    told = picked(choice, number)
                    self.assertEqual(told, plain_picked(choice, number), (choice, number))


class AskedAgain(unittest.TestCase):
    def test_nothing_handed_in_is_changed(self):
        choice = (4, 1, [[("is", 3), ("from", -2, 5)], [], [("bits", 1, 1)]])
        kept = copy.deepcopy(choice)
        for _ in range(2):
            self.assertIs(is_choice(choice), True)
            self.assertEqual(picked(choice, 3), 0)
            self.assertEqual(picked(choice, 7), 2)
            self.assertEqual(choice, kept)

    def test_what_is_no_choice_is_not_changed_either(self):
        thing = (4, 1, [[("is", 3), ["is", 3]], (), None])
        kept = copy.deepcopy(thing)
        self.assertIs(is_choice(thing), False)
        self.assertEqual(thing, kept)

    def test_a_changed_choice_is_told_anew(self):
        choice = (4, 0, [[("is", 3)]])
        self.assertEqual(picked(choice, 4), 1)
        choice[2][0].append(("is", 4))
        self.assertEqual(picked(choice, 4), 0)
        choice[2].append(None)
        self.assertIs(is_choice(choice), False)


if __name__ == "__main__":
    unittest.main()
