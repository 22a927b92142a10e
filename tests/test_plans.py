"""Point [12]: what a plan is."""

import copy
import random
import unittest

from caseways.plans import is_plan
from helper import ODD_THINGS, all_of, plain_is_plan, some_plan, some_stretches

# Stretch 1 and stretch 3 have one number each; labels 0 and 1 come twice.
FIVE = [(0, 3, 0), (4, 4, 1), (5, 9, 0), (10, 10, 2), (11, 20, 1)]
REST = ("table",)


def wide_row(*wides):
    """Stretches of so many numbers, the labels 0, 1, 2, 0, .. in turn."""
    told = []
    low = -7
    for place, wide in enumerate(wides):
        told.append((low, low + wide - 1, place % 3))
        low += wide
    return told


class Looking(unittest.TestCase):
    def yes(self, stretches, thing):
        self.assertIs(is_plan(stretches, thing), True, (stretches, thing))

    def no(self, stretches, thing):
        self.assertIs(is_plan(stretches, thing), False, (stretches, thing))


class Picks(Looking):
    def test_all_left_have_that_label(self):
        self.yes([(0, 9, 4)], ("pick", 4))
        self.no([(0, 9, 4)], ("pick", 5))
        self.no([(0, 9, 4), (10, 12, 3)], ("pick", 4))
        self.no([(0, 9, 4), (10, 12, 3)], ("pick", 3))

    def test_several_left_of_one_label(self):
        self.yes([(0, 9, 4), (10, 12, 3), (13, 13, 4)], ("within", 1, ("pick", 4)))
        self.no([(0, 9, 4), (10, 12, 3), (13, 13, 4)], ("within", 1, ("pick", 3)))
        self.no([(0, 9, 4), (10, 12, 3), (13, 13, 5)], ("within", 1, ("pick", 4)))

    def test_parts(self):
        for thing in (("pick",), ("pick", 0, 0), ("pick", None), ("pick", "0"), ("pick", False), ["pick", 0]):
            self.no([(0, 9, 0)], thing)
        self.no([(0, 9, 1)], ("pick", True))


class SingleTests(Looking):
    def test_is_only_with_low_and_high_alike(self):
        self.yes(FIVE, ("is", 1, REST))
        self.yes(FIVE, ("is", 3, REST))
        for k in (0, 2, 4):
            self.no(FIVE, ("is", k, REST))
        self.no([(0, 1, 0), (2, 9, 1)], ("is", 0, REST))

    def test_within_of_any_stretch(self):
        for k in range(5):
            self.yes(FIVE, ("within", k, REST))

    def test_k_is_there(self):
        for word in ("is", "within"):
            for k in (-1, -2, 5, 6, 10 ** 30, -(10 ** 30)):
                self.no(FIVE, (word, k, REST))

    def test_k_is_left(self):
        self.no(FIVE, ("is", 1, ("is", 1, REST)))
        self.no(FIVE, ("within", 1, ("within", 1, REST)))
        self.yes(FIVE, ("within", 1, ("within", 0, REST)))
        self.no(FIVE, ("below", 2, ("within", 2, REST), REST))
        self.no(FIVE, ("below", 2, REST, ("within", 1, REST)))
        self.yes(FIVE, ("below", 2, ("within", 1, REST), ("within", 2, REST)))
        self.no(FIVE, ("mask", 1, ("is", 1, REST)))
        self.yes(FIVE, ("mask", 1, ("is", 3, REST)))

    def test_k_is_not_alone(self):
        self.no([(4, 4, 0)], ("is", 0, REST))
        self.no([(4, 4, 0)], ("within", 0, ("pick", 0)))
        pair = [(4, 4, 0), (5, 5, 1)]
        self.yes(pair, ("is", 0, ("pick", 1)))
        self.no(pair, ("is", 0, ("is", 1, ("pick", 1))))
        self.no(pair, ("within", 0, ("within", 1, REST)))
        self.no(pair, ("below", 1, ("is", 0, ("pick", 0)), ("pick", 1)))

    def test_rest_is_a_plan_for_the_others(self):
        pair = [(4, 4, 0), (5, 5, 1)]
        self.no(pair, ("is", 0, ("pick", 0)))
        self.no(pair, ("within", 1, ("pick", 1)))
        self.no(pair, ("is", 0, ("pick", 2)))
        self.no(pair, ("is", 0, None))
        self.no(pair, ("is", 0, 1))

    def test_parts(self):
        for word in ("is", "within"):
            for thing in (
                (word,), (word, 1), (word, REST), (word, 1, REST, REST), (word, 1, 1), (word, True, REST),
                (word, False, REST), (word, None, REST), (word, "1", REST), (word, (1,), REST),
                [word, 1, REST], (word, 1, ["table"]), (word, 1, 1, REST),
            ):
                self.no(FIVE, thing)


class Below(Looking):
    def test_k_is_left_and_not_the_first(self):
        for k in (1, 2, 3, 4):
            self.yes(FIVE, ("below", k, REST, REST))
        for k in (0, -1, -4, 5, 6, 10 ** 30):
            self.no(FIVE, ("below", k, REST, REST))

    def test_the_first_left_is_meant(self):
        self.no(FIVE, ("within", 0, ("below", 1, REST, REST)))
        self.yes(FIVE, ("within", 0, ("below", 2, REST, REST)))
        self.no(FIVE, ("below", 3, REST, ("below", 3, REST, REST)))
        self.yes(FIVE, ("below", 3, REST, ("below", 4, REST, REST)))
        self.no(FIVE, ("mask", 0, ("below", 1, REST, REST)))
        self.no(FIVE, ("mask", 0, ("below", 2, REST, REST)))
        self.yes(FIVE, ("mask", 0, ("below", 3, REST, REST)))
        self.no([(0, 9, 0)], ("below", 0, ("pick", 0), ("pick", 0)))

    def test_one_is_for_those_ahead_other_for_k_and_those_behind(self):
        three = [(0, 9, 0), (10, 12, 1), (13, 13, 2)]
        below = ("below", 1, ("pick", 0), ("below", 2, ("pick", 1), ("pick", 2)))
        self.yes(three, below)
        self.yes(three, ("below", 2, ("below", 1, ("pick", 0), ("pick", 1)), ("pick", 2)))
        self.no(three, ("below", 1, below[3], ("pick", 0)))
        self.no(three, ("below", 2, ("pick", 0), ("below", 2, ("pick", 1), ("pick", 2))))
        self.no(three, ("below", 2, ("pick", 0), ("pick", 2)))
        self.no(three, ("below", 1, ("pick", 0), ("pick", 1)))
        self.no(three, ("below", 1, ("pick", 0), ("pick", 2)))

    def test_parts(self):
        for thing in (
            ("below",), ("below", 1), ("below", 1, REST), ("below", 1, REST, REST, REST), ("below", 1, REST, None),
            ("below", 1, None, REST), ("below", True, REST, REST), ("below", False, REST, REST),
            ("below", None, REST, REST), ["below", 1, REST, REST], ("below", 1, ["table"], REST),
            ("below", 1, REST, ["table"]), ("below", 1, (REST, REST)), ("below", (1,), REST, REST),
        ):
            self.no(FIVE, thing)


class Mask(Looking):
    def test_some_left_have_that_label_not_all(self):
        for label in (0, 1, 2):
            self.yes(FIVE, ("mask", label, REST))
        for label in (3, -1, 10 ** 30):
            self.no(FIVE, ("mask", label, REST))
        self.no([(0, 9, 4)], ("mask", 4, ("pick", 4)))
        self.no([(0, 9, 4)], ("mask", 3, ("pick", 4)))
        self.no(FIVE, ("mask", 1, ("mask", 1, REST)))
        self.yes(FIVE, ("mask", 1, ("mask", 2, ("pick", 0))))
        self.no(FIVE, ("mask", 1, ("mask", 2, ("mask", 0, ("pick", 0)))))

    def test_rest_is_a_plan_for_those_of_other_labels(self):
        self.yes(FIVE, ("mask", 0, ("mask", 1, ("pick", 2))))
        self.no(FIVE, ("mask", 0, ("mask", 1, ("pick", 1))))
        self.no(FIVE, ("mask", 0, ("pick", 1)))
        self.yes(FIVE, ("mask", 0, ("is", 3, ("pick", 1))))

    def test_at_most_64_numbers(self):
        self.yes(wide_row(30, 34), ("mask", 0, ("pick", 1)))
        self.no(wide_row(30, 35), ("mask", 0, ("pick", 1)))
        self.yes(wide_row(1, 63), ("mask", 1, ("pick", 0)))
        self.no(wide_row(1, 64), ("mask", 1, ("pick", 0)))

    def test_those_gone_between_count_too(self):
        for wide, right in ((10, True), (11, False)):
            self.assertIs(is_plan(wide_row(30, wide, 24), ("within", 1, ("mask", 0, ("pick", 2)))), right)
            self.assertIs(is_plan(wide_row(30, wide, 24, 1), ("below", 3, ("mask", 1, REST), ("pick", 0))), right)

    def test_those_gone_ahead_and_behind_do_not(self):
        self.yes(wide_row(500, 60, 4), ("within", 0, ("mask", 1, ("pick", 2))))
        self.yes(wide_row(60, 4, 500), ("within", 2, ("mask", 1, ("pick", 0))))
        self.yes(wide_row(500, 60, 4, 500), ("within", 0, ("within", 3, ("mask", 1, ("pick", 2)))))
        self.no(wide_row(500, 60, 5, 500), ("within", 0, ("within", 3, ("mask", 1, ("pick", 2)))))
        self.yes(wide_row(500, 60, 4), ("below", 1, ("pick", 0), ("mask", 2, ("pick", 1))))
        self.no(wide_row(500, 60, 5), ("below", 1, ("pick", 0), ("mask", 2, ("pick", 1))))

    def test_a_mask_may_leave_less_for_the_next_one(self):
        row = wide_row(3, 20, 20, 21)
        self.yes(row, ("mask", 0, ("mask", 1, ("pick", 2))))

    def test_parts(self):
        for thing in (
            ("mask",), ("mask", 1), ("mask", REST), ("mask", 1, REST, REST), ("mask", True, REST),
            ("mask", False, REST), ("mask", None, REST), ("mask", 1, None), ["mask", 1, REST], ("mask", (1,), REST),
        ):
            self.no(FIVE, thing)


class Table(Looking):
    def test_at_most_200_numbers(self):
        self.yes(wide_row(200), REST)
        self.no(wide_row(201), REST)
        self.yes(wide_row(1, 199), REST)
        self.no(wide_row(1, 200), REST)
        self.yes(wide_row(*[1] * 200), REST)
        self.no(wide_row(*[1] * 201), REST)
        self.no([(-(2 ** 39), 2 ** 39, 0)], REST)

    def test_those_gone_between_count_too(self):
        self.yes(wide_row(50, 100, 50), ("within", 1, REST))
        self.no(wide_row(50, 101, 50), ("within", 1, REST))

    def test_those_gone_ahead_and_behind_do_not(self):
        self.yes(wide_row(900, 150, 50, 900), ("within", 0, ("within", 3, REST)))
        self.no(wide_row(900, 150, 51, 900), ("within", 0, ("within", 3, REST)))
        self.yes(wide_row(200, 200), ("below", 1, REST, REST))
        self.no(wide_row(200, 201), ("below", 1, REST, REST))
        self.no(wide_row(201, 200), ("below", 1, REST, REST))

    def test_one_stretch_alone_may_have_one(self):
        self.yes([(5, 5, 0)], REST)
        self.yes([(0, 9, 0), (10, 10, 1)], ("is", 1, REST))

    def test_parts(self):
        for thing in ((), ("table", 0), ("table", ()), ("table", None), ["table"], "table", ("tables",)):
            self.no(FIVE, thing)


class AnyThing(Looking):
    def test_a_plan_of_all_six_forms(self):
        row = wide_row(3, 1, 5, 500, 1, 9, 20, 150, 2)
        plan = (
            "below", 4,
            ("within", 3, ("mask", 1, ("mask", 0, ("pick", 2)))),
            ("is", 4, ("within", 7, ("below", 6, ("pick", 2), ("table",)))),
        )
        self.yes(row, plan)
        self.no(row[:-2], plan)
        self.no(wide_row(3, 1, 5, 500, 1, 9, 20, 150, 2, 99), plan)
        self.no(wide_row(3, 1, 5, 500, 2, 9, 20, 150, 2), plan)
        self.no(wide_row(3, 1, 61, 500, 1, 9, 20, 150, 2), plan)

    def test_plans_for_other_stretches(self):
        three = [(0, 9, 0), (10, 10, 1), (11, 60, 0)]
        plan = ("is", 1, ("pick", 0))
        self.yes(three, plan)
        self.no(three[:2], ("within", 0, ("within", 1, ("pick", 0))))
        self.no(three[:1], plan)
        self.yes(three[:2], plan)
        self.no(three + [(61, 61, 1)], plan)
        self.no([(0, 9, 0), (10, 11, 1), (12, 60, 0)], plan)
        self.no([(0, 9, 0), (10, 10, 1), (11, 60, 2)], plan)
        self.no([(0, 9, 2), (10, 10, 1), (11, 60, 2)], plan)
        halves = ("below", 1, ("pick", 0), ("below", 2, ("pick", 1), ("pick", 0)))
        self.yes(three, halves)
        self.no(three[:2], halves)
        self.no(three + [(61, 61, 1)], halves)
        self.no([(0, 9, 1), (10, 10, 0), (11, 60, 1)], halves)
        mask = ("mask", 1, ("pick", 0))
        self.yes(three, mask)
        self.no([(0, 9, 0), (10, 10, 1), (11, 64, 0)], mask)
        self.yes([(0, 9, 0), (10, 10, 1), (11, 63, 0)], mask)

    def test_things_of_other_makes(self):
        for odd in ODD_THINGS + ["table", "pick", ("pick",), [("pick", 0)], (("table",),), ("", 0), (0, 0)]:
            self.no(FIVE, odd)
            for word in ("is", "within", "mask"):
                self.no(FIVE, (word, 1, odd))
                self.no(FIVE, (word, odd, REST))
            self.no(FIVE, ("below", odd, REST, REST))
            self.no(FIVE, ("below", 1, odd, REST))
            self.no(FIVE, ("below", 1, REST, odd))
            self.no(FIVE, (odd, 1))
            self.no(FIVE, (odd, 1, REST, REST))
            self.no([(0, 9, 0)], ("pick", odd))
            self.no([(0, 9, 1)], ("pick", odd))
        for number in (0, 1, -1, 10 ** 30):
            self.no(FIVE, number)
            self.no(FIVE, (number,))
            self.no(FIVE, (number, 1, REST))
            self.no(FIVE, ("is", 1, number))

    def test_eighty_deep(self):
        for words in (("is",), ("within",), ("mask",), ("below",), ("is", "within", "below", "mask")):
            thing = REST
            for depth in range(79):
                word = words[depth % len(words)]
                thing = (word, 1, thing, thing) if word == "below" else (word, 1, thing)
            self.no(FIVE, thing)

    def test_as_deep_as_there_are_stretches(self):
        for many in (60, 80, 400):
            row = [(k, k, 0 if k == 0 else 1 + k % 2) for k in range(many)]
            plan = ("pick", 0)
            for k in range(1, many):
                plan = ("is" if k % 3 else "within", k, plan)
            self.yes(row, plan)
            self.no(row + [(many, many, 9)], plan)
            plan = ("pick", row[-1][2])
            for k in reversed(range(many - 1)):
                plan = ("below", k + 1, ("pick", row[k][2]), plan)
            self.yes(row, plan)
            self.no(row[:-1], plan)

    def test_no_bound_is_looked_at(self):
        row = [(k, k, k) for k in range(150)]
        self.yes(row, REST)
        self.yes([(0, 9, 10 ** 30)], ("pick", 10 ** 30))


class AgainstThePlainReading(Looking):
    def others(self, chance, stretches, plan):
        """Things that have one step of a plan made into something else."""
        told = [list(plan), plan + (0,), plan + (("table",),), plan[:-1], plan[1:], ("table",), (plan,), None]
        told += [(word,) + plan[1:] for word in ("pick", "is", "within", "below", "mask", "table", "from")]
        for label in range(4):
            told.append(("pick", label))
        if len(plan) > 1:
            for k in [-1, True, False, None, "1"] + list(range(len(stretches) + 1)):
                told.append(plan[:1] + (k,) + plan[2:])
        if plan[0] == "below":
            told.append(("below", plan[1], plan[3], plan[2]))
        for place in range(2, len(plan)):
            inner = chance.sample(self.others(chance, stretches, plan[place]), 4)
            told += [plan[:place] + (part,) + plan[place + 1:] for part in inner]
        return told

    def check(self, stretches, thing):
        right = plain_is_plan(stretches, all_of(stretches), thing)
        self.assertIs(is_plan(stretches, thing), right, (stretches, thing))
        return right

    def test_plans_of_any_make(self):
        chance = random.Random(121)
        for _ in range(600):
            row = some_stretches(chance, chance.randrange(1, 15), chance.randrange(2, 6), chance.choice([2, 20, 90]))
            plan = some_plan(chance, row, all_of(row))
            self.assertTrue(plain_is_plan(row, all_of(row), plan))
            self.yes(row, plan)

    def test_60_stretches(self):
        chance = random.Random(122)
        for _ in range(40):
            row = some_stretches(chance, 60, chance.randrange(2, 9), chance.choice([2, 20, 2 ** 33]))
            self.yes(row, some_plan(chance, row, all_of(row)))

    def test_plans_with_one_step_made_otherwise(self):
        chance = random.Random(123)
        right = wrong = 0
        for _ in range(150):
            row = some_stretches(chance, chance.randrange(1, 7), 3, chance.choice([2, 20, 70]))
            for thing in self.others(chance, row, some_plan(chance, row, all_of(row))):
                if self.check(row, thing):
                    right += 1
                else:
                    wrong += 1
        self.assertGreater(right, 500)
        self.assertGreater(wrong, 2000)

    def test_plans_of_one_row_for_another(self):
        chance = random.Random(124)
        for _ in range(300):
            row = some_stretches(chance, chance.randrange(2, 8), 3, chance.choice([2, 20, 70]), 0)
            plan = some_plan(chance, row, all_of(row))
            for other in (row[:-1], row[1:], row + [(row[-1][1] + 1, row[-1][1] + 1, row[-1][2] + 1)]):
                self.check(other, plan)
            many = len(row)
            self.check(some_stretches(chance, many, 3, chance.choice([2, 20, 70]), 0), plan)
            low, high, label = row[-1]
            self.check(row[:-1] + [(low, high + 1, label)], plan)
            self.check([(one, last, 2 - some) for one, last, some in row], plan)


class AskedAgain(Looking):
    def test_nothing_handed_in_is_changed(self):
        row = list(FIVE)
        for thing in (("is", 1, ("mask", 0, REST)), ("is", 1, ["mask", 0, [REST]]), [["is"], None]):
            kept = copy.deepcopy(thing)
            told = is_plan(row, thing)
            self.assertIs(is_plan(row, thing), told)
            self.assertEqual(thing, kept)
            self.assertEqual(row, FIVE)


if __name__ == "__main__":
    unittest.main()
