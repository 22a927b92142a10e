"""Point [7]: stretches of choices, choices by pattern, labels by halves."""

import copy
import random
import unittest

from caseways.choices import clash_of, is_choice, picked
from caseways.errors import BadText, Beyond, CaseError, NoStretch, TooNarrow, Twice
from caseways.stretches import by_pattern, is_stretches, label_at, stretches_of
from helper import (
    KINDS,
    SMALL_KINDS,
    all_items,
    edges_of,
    numbers_of_kind,
    plain_clash,
    plain_picked,
    plain_picks,
    plain_stretches,
    some_bits_choice,
    some_choice,
    some_cut_choice,
    some_stretches,
)


class StretchesOf(unittest.TestCase):
    def check(self, choice, numbers):
        """Right by a plain reading, and right by the document's own words."""
        told = stretches_of(choice)
        self.assertEqual(told, plain_stretches(choice, numbers), choice)
        self.assertIsInstance(told, list)
        kind = numbers_of_kind(*choice[:2])
        self.assertEqual((told[0][0], told[-1][1]), (kind[0], kind[-1]))
        for stretch in told:
            self.assertIsInstance(stretch, tuple)
            low, high, label = stretch
            self.assertLessEqual(low, high)
            self.assertEqual([picked(choice, low), picked(choice, high)], [label, label])
        for ahead, behind in zip(told, told[1:]):
            self.assertEqual(behind[0], ahead[1] + 1)
            self.assertNotEqual(behind[2], ahead[2])
        self.assertIs(is_stretches(told), True)

    def test_no_case_at_all(self):
        for width, sign in KINDS:
            kind = numbers_of_kind(width, sign)
            self.assertEqual(stretches_of((width, sign, [])), [(kind[0], kind[-1], 0)])
            self.assertEqual(stretches_of((width, sign, [[], []])), [(kind[0], kind[-1], 2)])

    def test_one_case_has_all(self):
        for width, sign in KINDS:
            kind = numbers_of_kind(width, sign)
            self.assertEqual(stretches_of((width, sign, [[], [("bits", 0, 0)]])), [(kind[0], kind[-1], 1)])

    def test_the_rest_ahead_between_and_behind(self):
        choice = (8, 0, [[("is", 9)], [("from", 3, 5), ("is", 254)]])
        self.assertEqual(
            stretches_of(choice),
            [(0, 2, 2), (3, 5, 1), (6, 8, 2), (9, 9, 0), (10, 253, 2), (254, 254, 1), (255, 255, 2)],
        )

    def test_no_rest_at_the_ends(self):
        choice = (8, 1, [[("is", 127)], [("is", -128)]])
        self.assertEqual(stretches_of(choice), [(-128, -128, 1), (-127, 126, 2), (127, 127, 0)])

    def test_items_of_one_case_that_touch_or_overlap(self):
        choice = (8, 0, [[("is", 6), ("from", 3, 5), ("from", 5, 5), ("from", 2, 4)], [("is", 7)]])
        self.assertEqual(stretches_of(choice), [(0, 1, 2), (2, 6, 0), (7, 7, 1), (8, 255, 2)])

    def test_bits_of_numbers_below_0(self):
        self.assertEqual(
            stretches_of((4, 1, [[("bits", 6, 6)]])),
            [(-8, -3, 1), (-2, -1, 0), (0, 5, 1), (6, 7, 0)],
        )
        self.assertEqual(stretches_of((40, 1, [[("bits", 2 ** 39, 0)]])), [(-(2 ** 39), -1, 1), (0, 2 ** 39 - 1, 0)])

    def test_all_choices_of_one_item(self):
        for width, sign in SMALL_KINDS[:6]:
            for item in all_items(width, sign):
                self.check((width, sign, [[item]]), numbers_of_kind(width, sign))

    def test_small_kinds_over_all_numbers(self):
        chance = random.Random(71)
        for width, sign in SMALL_KINDS:
            for _ in range(60):
                self.check(some_cut_choice(chance, width, sign, 5, 12), numbers_of_kind(width, sign))
                self.check(some_bits_choice(chance, width, sign, 5), numbers_of_kind(width, sign))

    def test_all_kinds_over_all_edges(self):
        chance = random.Random(72)
        for width, sign in KINDS:
            for _ in range(6):
                choice = some_cut_choice(chance, width, sign, 5, 20)
                self.check(choice, edges_of(choice))
                choice = some_bits_choice(chance, width, sign, 4)
                self.check(choice, edges_of(choice))

    def test_some_400_stretches(self):
        for width, sign in ((10, 0), (40, 0), (40, 1)):
            low = numbers_of_kind(width, sign)[0]
            step = 2 ** width // 200
            cases = [[("is", low + step * (10 * k + i) + 1) for i in range(10)] for k in range(20)]
            told = stretches_of((width, sign, cases))
            self.assertEqual(len(told), 401)
            self.check((width, sign, cases), edges_of((width, sign, cases)))

    def test_one_item_of_256_stretches(self):
        for width, sign in ((20, 0), (40, 0), (40, 1)):
            choice = (width, sign, [[], [("bits", 2 ** (width - 9), 0)]])
            self.assertEqual(len(stretches_of(choice)), 512)
            self.check(choice, edges_of(choice))


class Refused(unittest.TestCase):
    def check(self, choice, clash):
        kept = copy.deepcopy(choice)
        with self.assertRaises(Twice) as caught:
            stretches_of(choice)
        error = caught.exception
        self.assertEqual((error.one, error.other, error.number), clash)
        self.assertIsInstance(error, CaseError)
        self.assertIsInstance(error, ValueError)
        for refusal in (Beyond, TooNarrow, NoStretch, BadText):
            self.assertNotIsInstance(error, refusal)
        self.assertEqual(choice, kept)

    def test_a_number_that_two_cases_pick(self):
        self.check((8, 0, [[("is", 3)], [("is", 3)]]), (0, 1, 3))
        self.check((8, 1, [[("from", -5, 5)], [], [("is", -6)], [("bits", 255, 255)]]), (0, 3, -1))

    def test_the_least_number_and_its_first_two_cases(self):
        self.check((8, 0, [[("is", 9)], [("is", 9)], [("is", 4)], [("is", 4)], [("is", 4)]]), (2, 3, 4))

    def test_just_where_clash_of_tells_some(self):
        chance = random.Random(73)
        clashes = 0
        for width, sign in KINDS:
            for _ in range(8):
                choice = some_choice(chance, width, sign, 4, 2)
                clash = plain_clash(choice, edges_of(choice))
                self.assertEqual(clash_of(choice), clash)
                if clash is None:
                    self.assertEqual(stretches_of(choice), plain_stretches(choice, edges_of(choice)))
                else:
                    clashes += 1
                    self.check(choice, clash)
        self.assertGreater(clashes, 100)

    def test_one_case_may_pick_a_number_twice(self):
        self.assertEqual(stretches_of((3, 0, [[("is", 3), ("is", 3), ("from", 2, 4)]])), [(0, 1, 1), (2, 4, 0), (5, 7, 1)])


class ByPattern(unittest.TestCase):
    def check_items(self, width, sign, items, told):
        self.assertEqual(by_pattern((width, sign, [items])), (width, 0, [told]))

    def test_is_by_is(self):
        self.check_items(8, 1, [("is", -1), ("is", -128), ("is", 0), ("is", 127)], [
            ("is", 255), ("is", 128), ("is", 0), ("is", 127),
        ])
        self.check_items(8, 0, [("is", 255)], [("is", 255)])

    def test_bits_as_they_are(self):
        for sign in (0, 1):
            items = [("bits", 129, 128), ("bits", 1, 2), ("bits", 0, 0)]
            self.check_items(8, sign, items, items)

    def test_from_below_0(self):
        self.check_items(8, 1, [("from", -5, -2)], [("from", 251, 254)])
        self.check_items(8, 1, [("from", -128, -1)], [("from", 128, 255)])
        self.check_items(8, 1, [("from", -1, -1)], [("from", 255, 255)])

    def test_from_above_0(self):
        self.check_items(8, 1, [("from", 0, 0), ("from", 0, 127), ("from", 5, 9)], [
            ("from", 0, 0), ("from", 0, 127), ("from", 5, 9),
        ])
        self.check_items(8, 0, [("from", 0, 255), ("from", 127, 128)], [("from", 0, 255), ("from", 127, 128)])

    def test_from_over_0_by_two_those_from_0_on_first(self):
        self.check_items(8, 1, [("from", -1, 0)], [("from", 0, 0), ("from", 255, 255)])
        self.check_items(8, 1, [("from", -128, 127)], [("from", 0, 127), ("from", 128, 255)])
        self.check_items(1, 1, [("from", -1, 0)], [("from", 0, 0), ("from", 1, 1)])
        self.check_items(40, 1, [("is", 4), ("from", -7, 2), ("is", 5)], [
            ("is", 4), ("from", 0, 2), ("from", 2 ** 40 - 7, 2 ** 40 - 1), ("is", 5),
        ])

    def test_cases_stay_in_their_places(self):
        choice = (4, 1, [[], [("is", -1)], [], [("from", -2, 1), ("bits", 3, 1)]])
        told = (4, 0, [[], [("is", 15)], [], [("from", 0, 1), ("from", 14, 15), ("bits", 3, 1)]])
        self.assertEqual(by_pattern(choice), told)
        self.assertEqual(by_pattern((4, 1, [])), (4, 0, []))

    def test_each_item_of_small_kinds(self):
        for width, sign in SMALL_KINDS[:8]:
            for item in all_items(width, sign):
                told_width, told_sign, ((*parts,),) = by_pattern((width, sign, [[item]]))
                self.assertEqual((told_width, told_sign), (width, 0))
                for number in numbers_of_kind(width, sign):
                    there = [plain_picks(width, part, number % 2 ** width) for part in parts]
                    self.assertEqual(any(there), plain_picks(width, item, number), (width, sign, item, number))

    def test_each_number_goes_where_its_pattern_goes(self):
        chance = random.Random(74)
        for width, sign in KINDS:
            for _ in range(8):
                choice = some_choice(chance, width, sign, 4, 3)
                told = by_pattern(choice)
                self.assertIs(is_choice(told), True)
                for number in edges_of(choice)[:50]:
                    self.assertEqual(plain_picked(told, number % 2 ** width), plain_picked(choice, number), choice)

    def test_clashing_choices_are_not_refused(self):
        choice = (4, 1, [[("is", -1)], [("is", -1)]])
        self.assertEqual(by_pattern(choice), (4, 0, [[("is", 15)], [("is", 15)]]))

    def test_what_is_told_may_be_handed_in_again(self):
        choice = (4, 1, [[("from", -3, 2)], [("bits", 12, 4)]])
        told = by_pattern(choice)
        self.assertEqual(by_pattern(told), told)
        self.assertEqual(stretches_of(told), [(0, 2, 0), (3, 3, 2), (4, 7, 1), (8, 12, 2), (13, 15, 0)])


class LabelAt(unittest.TestCase):
    def check(self, stretches):
        """At each end, one ahead and one behind, and far away."""
        for low, high, label in stretches:
            for number in (low, high, (low + high) // 2):
                self.assertEqual(label_at(stretches, number), label, (stretches, number))
        first, last = stretches[0][0], stretches[-1][1]
        for number in (first - 1, first - 2, first - 10 ** 30, last + 1, last + 2, last + 10 ** 30):
            self.assertIs(label_at(stretches, number), None, (stretches, number))

    def test_one_stretch(self):
        self.check([(5, 5, 0)])
        self.check([(-7, 9, 3)])
        self.check([(-(2 ** 39), 2 ** 39 - 1, 99)])

    def test_few_stretches(self):
        chance = random.Random(75)
        for many in range(1, 20):
            for _ in range(10):
                self.check(some_stretches(chance, many, 4, 6))

    def test_400_stretches(self):
        chance = random.Random(76)
        self.check([(low, low, low % 2) for low in range(-200, 200)])
        self.check(some_stretches(chance, 400, 90, 2 ** 31, -(2 ** 39)))

    def test_ends_one_ahead_and_one_behind(self):
        stretches = [(-4, -1, 2), (0, 0, 0), (1, 9, 2), (10, 10, 1)]
        told = [label_at(stretches, number) for number in (-5, -4, -1, 0, 1, 9, 10, 11)]
        self.assertEqual(told, [None, 2, 2, 0, 2, 2, 1, None])

    def test_of_what_stretches_of_tells(self):
        chance = random.Random(77)
        for width, sign in SMALL_KINDS:
            choice = some_cut_choice(chance, width, sign, 4, 8)
            told = stretches_of(choice)
            for number in numbers_of_kind(width, sign):
                self.assertEqual(label_at(told, number), plain_picked(choice, number))


class AskedAgain(unittest.TestCase):
    def test_nothing_handed_in_is_changed(self):
        choice = (6, 1, [[("is", 9), ("from", -2, 5)], [], [("bits", 48, 32), ("is", -3)]])
        stretches = [(0, 4, 1), (5, 5, 0)]
        kept = copy.deepcopy((choice, stretches))
        for _ in range(2):
            stretches_of(choice)
            by_pattern(choice)
            label_at(stretches, 5)
            is_stretches(stretches)
            self.assertEqual((choice, stretches), kept)

    def test_told_lists_are_the_askers_own(self):
        choice = (6, 1, [[("is", 9), ("from", -2, 5)], [], []])
        first = stretches_of(choice)
        kept = list(first)
        first[0] = None
        first.append(99)
        self.assertEqual(stretches_of(choice), kept)
        pattern = by_pattern(choice)
        kept = copy.deepcopy(pattern)
        lists = [pattern[2]] + pattern[2] + [choice[2]] + choice[2]
        self.assertEqual(len({id(one) for one in lists}), len(lists))
        pattern[2][0].append(("is", 3))
        pattern[2][1].append(("is", 4))
        pattern[2].append([])
        self.assertEqual(by_pattern(choice), kept)
        self.assertEqual(choice, (6, 1, [[("is", 9), ("from", -2, 5)], [], []]))

    def test_one_list_handed_in_twice_is_told_as_two(self):
        items = [("bits", 1, 2)]
        told = by_pattern((6, 0, [items, items]))
        self.assertIsNot(told[2][0], told[2][1])
        self.assertIsNot(told[2][0], items)

    def test_later_changes_to_a_choice_change_no_answer(self):
        choice = (6, 0, [[("is", 9)]])
        stretches = stretches_of(choice)
        pattern = by_pattern(choice)
        choice[2][0].append(("is", 3))
        choice[2].append([("is", 4)])
        self.assertEqual(stretches, [(0, 8, 1), (9, 9, 0), (10, 63, 1)])
        self.assertEqual(pattern, (6, 0, [[("is", 9)]]))
        self.assertEqual(len(stretches_of(choice)), 6)


if __name__ == "__main__":
    unittest.main()
