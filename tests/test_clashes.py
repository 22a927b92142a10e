"""Point [6]: numbers that two cases pick, and cases that no number goes to."""

import copy
import itertools
import random
import unittest

from caseways.choices import clash_of, dead_cases
from helper import (
    KINDS,
    SMALL_KINDS,
    all_items,
    edges_of,
    numbers_of_kind,
    plain_clash,
    plain_dead,
    some_choice,
)


class Clashes(unittest.TestCase):
    def test_no_case_at_all(self):
        for width, sign in KINDS:
            self.assertIs(clash_of((width, sign, [])), None)

    def test_cases_without_items(self):
        self.assertIs(clash_of((8, 0, [[], [], []])), None)
        self.assertIs(clash_of((8, 0, [[], [("is", 3)], []])), None)

    def test_cases_side_by_side(self):
        self.assertIs(clash_of((8, 0, [[("from", 0, 4)], [("from", 5, 9)], [("is", 10)]])), None)
        self.assertIs(clash_of((8, 1, [[("bits", 128, 0)], [("bits", 128, 128)]])), None)

    def test_an_item_twice_within_one_case(self):
        self.assertIs(clash_of((8, 0, [[("is", 3), ("is", 3)], [("is", 4)]])), None)
        self.assertIs(clash_of((8, 0, [[("from", 0, 9), ("bits", 1, 1), ("from", 3, 5)]])), None)

    def test_a_clash_is_a_tuple(self):
        told = clash_of((8, 0, [[("is", 3)], [("is", 3)]]))
        self.assertEqual(told, (0, 1, 3))
        self.assertIsInstance(told, tuple)

    def test_the_least_number_not_the_first_cases(self):
        choice = (8, 0, [[("is", 9)], [("is", 9)], [("is", 4)], [("is", 4)]])
        self.assertEqual(clash_of(choice), (2, 3, 4))

    def test_the_first_two_that_pick_the_number(self):
        choice = (8, 0, [[], [("from", 5, 9)], [("is", 7)], [("from", 0, 6)], [("from", 2, 5)], [("is", 5)]])
        self.assertEqual(clash_of(choice), (3, 4, 2))
        choice = (8, 0, [[], [("from", 5, 9)], [("is", 6)], [("is", 6)], [("is", 5)], [("is", 5)]])
        self.assertEqual(clash_of(choice), (1, 4, 5))

    def test_numbers_below_0_are_less(self):
        choice = (8, 1, [[("is", 0), ("is", 127)], [("bits", 1, 0)], [("is", -2)], [("is", -1)]])
        self.assertEqual(clash_of(choice), (1, 2, -2))

    def test_ends_of_the_kind(self):
        for width, sign in KINDS:
            kind = numbers_of_kind(width, sign)
            low, high = kind[0], kind[-1]
            self.assertEqual(clash_of((width, sign, [[("bits", 0, 0)], [("is", high)]])), (0, 1, high))
            self.assertEqual(clash_of((width, sign, [[("from", low, high)], [("bits", 0, 0)]])), (0, 1, low))
            self.assertIs(clash_of((width, sign, [[("is", high)], [("is", low)]])), None)

    def test_bits_that_pick_none_clash_with_none(self):
        self.assertIs(clash_of((40, 0, [[("bits", 1, 2)], [("bits", 0, 0)]])), None)
        self.assertIs(clash_of((40, 1, [[("bits", 0, 1)], [("bits", 0, 1)]])), None)


class DeadCases(unittest.TestCase):
    def test_no_case_at_all(self):
        for width, sign in KINDS:
            self.assertEqual(dead_cases((width, sign, [])), [])

    def test_cases_without_items(self):
        self.assertEqual(dead_cases((8, 0, [[], [("is", 3)], []])), [0, 2])

    def test_none_is_dead(self):
        self.assertEqual(dead_cases((8, 0, [[("is", 3)], [("from", 3, 4)], [("from", 3, 5)]])), [])

    def test_all_numbers_go_to_a_case_ahead(self):
        self.assertEqual(dead_cases((8, 0, [[("from", 3, 9)], [("is", 3)], [("is", 9)], [("from", 4, 8)]])), [1, 2, 3])

    def test_all_numbers_go_to_several_cases_ahead(self):
        choice = (8, 0, [[("from", 0, 3)], [("from", 4, 6)], [("from", 2, 5)], [("from", 2, 7)], [("is", 7)]])
        self.assertEqual(dead_cases(choice), [2, 4])
        choice = (8, 1, [[("bits", 129, 129)], [("bits", 129, 128)], [("from", -128, -1)], [("from", -1, 0)]])
        self.assertEqual(dead_cases(choice), [2])

    def test_a_case_behind_kills_none(self):
        self.assertEqual(dead_cases((8, 0, [[("is", 3)], [("from", 0, 255)], [("is", 4)]])), [2])

    def test_a_gap_of_one_number_is_enough_to_live(self):
        choice = (8, 0, [[("from", 0, 6), ("from", 8, 255)], [("bits", 0, 0)], [("is", 7)]])
        self.assertEqual(dead_cases(choice), [2])

    def test_bits_that_pick_none(self):
        self.assertEqual(dead_cases((40, 0, [[("bits", 1, 2)], [("bits", 0, 0)], [("bits", 1, 1 + 2 ** 39)]])), [0, 2])

    def test_ends_of_the_kind(self):
        for width, sign in KINDS:
            kind = numbers_of_kind(width, sign)
            low, high = kind[0], kind[-1]
            self.assertEqual(dead_cases((width, sign, [[("is", low)], [("from", low, high)], [("is", high)]])), [2])
            self.assertEqual(dead_cases((width, sign, [[("bits", 0, 0)], [("from", low, high)]])), [1])


class AgainstThePlainReading(unittest.TestCase):
    def check(self, choice, numbers):
        self.assertEqual(clash_of(choice), plain_clash(choice, numbers), choice)
        self.assertEqual(dead_cases(choice), plain_dead(choice, numbers), choice)

    def test_all_choices_of_few_items(self):
        for width, sign, many in ((1, 0, 3), (1, 1, 3), (2, 0, 2), (2, 1, 2)):
            numbers = numbers_of_kind(width, sign)
            for items in itertools.product(all_items(width, sign), repeat=many):
                self.check((width, sign, [[item] for item in items]), numbers)
                self.check((width, sign, [list(items[1:]), [items[0]]]), numbers)

    def test_small_kinds_over_all_numbers(self):
        chance = random.Random(6)
        for width, sign in SMALL_KINDS:
            for _ in range(200):
                choice = some_choice(chance, width, sign, 5, 3)
                self.check(choice, numbers_of_kind(width, sign))

    def test_the_edges_tell_what_all_numbers_do(self):
        chance = random.Random(7)
        for width, sign in SMALL_KINDS:
            for _ in range(20):
                choice = some_choice(chance, width, sign, 4, 3)
                numbers = numbers_of_kind(width, sign)
                edges = edges_of(choice)
                self.assertEqual(plain_clash(choice, edges), plain_clash(choice, numbers))
                self.assertEqual(plain_dead(choice, edges), plain_dead(choice, numbers))

    def test_all_kinds_over_all_edges(self):
        chance = random.Random(8)
        for width, sign in KINDS:
            for _ in range(12):
                choice = some_choice(chance, width, sign, 4, 3)
                self.check(choice, edges_of(choice))


class ManyStretches(unittest.TestCase):
    def test_single_numbers_in_about_400_stretches(self):
        for width, sign in ((12, 0), (40, 0), (40, 1)):
            low = numbers_of_kind(width, sign)[0]
            step = 2 ** width // 200
            cases = [[("is", low + step * (10 * k + i)) for i in range(10)] for k in range(19)]
            choice = (width, sign, cases)
            self.assertIs(clash_of(choice), None)
            self.assertEqual(dead_cases(choice), [])
            cases[17].append(("is", low + step * 55))
            cases.append([("is", low + step * 55), ("is", low + step * 56)])
            self.assertEqual(clash_of(choice), (5, 17, low + step * 55))
            self.assertEqual(dead_cases(choice), [19])

    def test_bits_in_256_stretches(self):
        for width in (20, 40):
            top = 2 ** (width - 9)
            self.check_bits(width, 0, top, 0)
            self.check_bits(width, 1, top, -(2 ** (width - 1)))

    def check_bits(self, width, sign, bit, low):
        """All bits above one bit are free, so that it picks each other stretch."""
        ons, offs = ("bits", bit, bit), ("bits", bit, 0)
        self.assertIs(clash_of((width, sign, [[ons], [offs]])), None)
        self.assertEqual(dead_cases((width, sign, [[ons], [offs]])), [])
        self.assertEqual(dead_cases((width, sign, [[ons], [offs], [("bits", 0, 0)]])), [2])
        last = numbers_of_kind(width, sign)[-1]
        self.assertEqual(clash_of((width, sign, [[offs], [ons], [("is", last)]])), (1, 2, last))
        self.assertEqual(clash_of((width, sign, [[ons], [("bits", 0, 0)]])), (0, 1, low + bit))

    def test_as_many_cases_and_items_as_may_be(self):
        # Two free bits, then five bits that tell the case and five that tell the item.
        for width, sign in ((12, 1), (40, 0), (40, 1)):
            place = width - 7
            mask = 31 * 2 ** place + 31 * 2 ** (place - 5)
            cases = [[("bits", mask, k * 2 ** place + i * 2 ** (place - 5)) for i in range(30)] for k in range(30)]
            choice = (width, sign, cases)
            self.assertIs(clash_of(choice), None)
            self.assertEqual(dead_cases(choice), [])
            low = numbers_of_kind(width, sign)[0]
            cases[3], cases[29] = cases[29], cases[3] + cases[28]
            self.assertEqual(clash_of(choice), (28, 29, low + 28 * 2 ** place))
            self.assertEqual(dead_cases(choice), [])
            cases[29] = cases[28] + cases[7]
            self.assertEqual(dead_cases(choice), [29])

    def test_the_same_many_stretches_again_and_again(self):
        item = ("bits", 2 ** 31, 0)
        choice = (40, 1, [[item] * 30 for _ in range(30)])
        self.assertEqual(clash_of(choice), (0, 1, -(2 ** 39)))
        self.assertEqual(dead_cases(choice), list(range(1, 30)))


class AskedAgain(unittest.TestCase):
    def test_nothing_handed_in_is_changed(self):
        choice = (6, 1, [[("is", 9), ("from", -2, 5)], [], [("bits", 1, 1)], [("from", 1, 3), ("is", -32)]])
        kept = copy.deepcopy(choice)
        inside = [choice[2]] + choice[2]
        for _ in range(2):
            self.assertEqual(clash_of(choice), (0, 2, -1))
            self.assertEqual(dead_cases(choice), [1])
            self.assertEqual(choice, kept)
        for one, other in zip(inside, [choice[2]] + choice[2]):
            self.assertIs(one, other)

    def test_a_told_list_is_the_askers_own(self):
        choice = (6, 0, [[], [("is", 1)], [("is", 1)]])
        told = dead_cases(choice)
        self.assertIsNot(told, dead_cases(choice))
        told.append(99)
        told[0] = 98
        self.assertEqual(dead_cases(choice), [0, 2])
        empty = dead_cases((6, 0, []))
        empty.append(99)
        self.assertEqual(dead_cases((6, 0, [])), [])

    def test_a_changed_choice_is_told_anew(self):
        choice = (6, 0, [[("is", 1)], [("is", 2)]])
        self.assertIs(clash_of(choice), None)
        self.assertEqual(dead_cases(choice), [])
        choice[2][0].append(("is", 2))
        self.assertEqual(clash_of(choice), (0, 1, 2))
        self.assertEqual(dead_cases(choice), [1])

    def test_one_list_may_stand_for_several_cases(self):
        items = [("is", 4)]
        choice = (6, 0, [items, items])
        self.assertEqual(clash_of(choice), (0, 1, 4))
        self.assertEqual(dead_cases(choice), [1])


if __name__ == "__main__":
    unittest.main()
