"""Points [1], [2] and [3], over the whole program, and its interface."""

import copy
import importlib
import inspect
import random
import unittest

from caseways.choices import clash_of, dead_cases, picked
from caseways.costs import cost_of, room_of
from caseways.counting import counted, weighed, weights_of
from caseways.desk import answers
from caseways.errors import BadText, Beyond, CaseError, NoStretch, TooNarrow, Twice
from caseways.halves import halves_cost, halves_plan
from caseways.inrow import best_row, row_plan
from caseways.leasts import cost_paper, least_plan, least_room
from caseways.machine import run
from caseways.plans import is_plan, rows_of
from caseways.reaching import beyond_of, leads_right
from caseways.rowforms import is_rows
from caseways.runs import least_in_runs
from caseways.stairs import plan_within, stair
from caseways.stretches import is_stretches, label_at, stretches_of
from caseways.texts import choice_from, choice_text, rows_from, rows_text
from helper import ODD_THINGS, numbers_of_kind, plain_picked, some_bits_choice, some_cut_choice, some_prices

# The names and arguments that the document tells, file by file.
INTERFACE = {
    "numbers": {
        "least_of": "width sign", "most_of": "width sign", "pattern_of": "number width", "number_of": "pattern width sign",
    },
    "choices": {
        "is_choice": "thing", "picks": "width item number", "picked": "choice number", "clash_of": "choice",
        "dead_cases": "choice",
    },
    "stretches": {
        "stretches_of": "choice", "by_pattern": "choice", "label_at": "stretches number", "is_stretches": "thing",
    },
    "rowforms": {"is_rows": "thing", "goals_of": "row"},
    "machine": {"run": "rows number"},
    "reaching": {
        "come_to": "rows low high", "beyond_of": "rows low high", "never_done": "rows low high",
        "leads_right": "rows stretches",
    },
    "plans": {"is_plan": "stretches thing", "rows_of": "stretches plan"},
    "costs": {"cost_of": "stretches weights prices plan", "room_of": "stretches sizes plan"},
    "inrow": {"row_plan": "stretches weights prices label", "best_row": "stretches weights prices"},
    "halves": {"halves_plan": "stretches weights", "halves_cost": "stretches weights"},
    "runs": {"least_in_runs": "stretches weights prices", "run_paper": "stretches weights prices"},
    "runcheck": {"shows_runs": "stretches weights prices thing"},
    "leasts": {
        "least_plan": "stretches weights prices", "cost_paper": "stretches weights prices",
        "least_room": "stretches sizes", "room_paper": "stretches sizes",
    },
    "leastcheck": {"shows_costs": "stretches weights prices thing", "shows_rooms": "stretches sizes thing"},
    "stairs": {
        "stair": "stretches weights prices sizes", "plan_within": "stretches weights prices sizes room",
    },
    "counting": {"weights_of": "stretches numbers", "counted": "rows numbers", "weighed": "rows counts prices"},
    "texts": {"choice_text": "choice", "choice_from": "text", "rows_text": "rows", "rows_from": "text"},
    "desk": {"answers": "text"},
}

CHOICE = (4, 1, [[("is", 0), ("from", -6, -4)], [], [("bits", 3, 1)], [("is", 7)]])
TWICE = (4, 0, [[("from", 1, 9)], [("is", 9), ("is", 3)], [("is", 3), ("is", 1)]])
STRETCHES = [(0, 3, 0), (4, 4, 1), (5, 9, 0), (10, 10, 2)]
WEIGHTS = [5, 4, 9, 2]
PRICES = (2, 3, 1, 4, 5)
SIZES = (2, 3, 1, 4, 5, 1)
PLAN = ("is", 1, ("below", 3, ("table",), ("pick", 2)))
ROWS = [("below", 0, 4), ("is", 0, 3), ("table", 1, (4, 3)), ("pick", 0), ("pick", 1)]
TEXT = "choice 8 1\ncase 0\ncase -128..-1 100"
PAPER = cost_paper(STRETCHES, WEIGHTS, PRICES)

# Questions to each function, all of them answered.
QUESTIONS = {
    "least_of": [(8, 1)], "most_of": [(8, 0)], "pattern_of": [(-1, 8)], "number_of": [(255, 8, 1)],
    "is_choice": [(CHOICE,), (TWICE,), ([],)], "picks": [(4, ("bits", 3, 1), -3)], "picked": [(CHOICE, 5), (TWICE, 3)],
    "clash_of": [(CHOICE,), (TWICE,)], "dead_cases": [(CHOICE,), (TWICE,)],
    "stretches_of": [(CHOICE,)], "by_pattern": [(CHOICE,), (TWICE,)], "label_at": [(STRETCHES, 4)],
    "is_stretches": [(STRETCHES,), ([(0, 0, 0), (1, 1, 0)],)],
    "is_rows": [(ROWS,), ([],)], "goals_of": [(ROWS[2],), (ROWS[3],), (ROWS[0],)], "run": [(ROWS, 2), (ROWS, -3)],
    "come_to": [(ROWS, -9, 9), (ROWS, 0, 0)], "beyond_of": [(ROWS, -9, 9)], "never_done": [(ROWS, -9, -1)],
    "leads_right": [(ROWS, [(-9, -1, 1), (0, 0, 0), (1, 1, 1), (2, 2, 0)])],
    "is_plan": [(STRETCHES, PLAN), (STRETCHES, ("pick", 0))], "rows_of": [(STRETCHES, PLAN), (STRETCHES, ("table",))],
    "cost_of": [(STRETCHES, WEIGHTS, PRICES, PLAN)], "room_of": [(STRETCHES, SIZES, PLAN)],
    "row_plan": [(STRETCHES, WEIGHTS, PRICES, 0)], "best_row": [(STRETCHES, WEIGHTS, PRICES)],
    "halves_plan": [(STRETCHES, WEIGHTS)], "halves_cost": [(STRETCHES, WEIGHTS)],
    "least_in_runs": [(STRETCHES, WEIGHTS, PRICES)], "run_paper": [(STRETCHES, WEIGHTS, PRICES)],
    "shows_runs": [(STRETCHES, WEIGHTS, PRICES, [[0, 0, 0, 0], [0, 0, 0], [0, 0], [0]]), (STRETCHES, WEIGHTS, PRICES, [])],
    "least_plan": [(STRETCHES, WEIGHTS, PRICES)], "cost_paper": [(STRETCHES, WEIGHTS, PRICES)],
    "least_room": [(STRETCHES, SIZES)], "room_paper": [(STRETCHES, SIZES)],
    "shows_costs": [(STRETCHES, WEIGHTS, PRICES, PAPER)], "shows_rooms": [(STRETCHES, SIZES, PAPER), (STRETCHES, SIZES, [0])],
    "stair": [(STRETCHES, WEIGHTS, PRICES, SIZES)], "plan_within": [(STRETCHES, WEIGHTS, PRICES, SIZES, 9)],
    "weights_of": [(STRETCHES, [0, 10, 4, 4]), (STRETCHES, [])], "counted": [(ROWS, [1, 2, -5]), (ROWS, [])],
    "weighed": [(ROWS, [1, 2, 3, 4, 5], PRICES)],
    "choice_text": [(CHOICE,)], "choice_from": [(TEXT,), ("choice 1 0\ncase\ncase",)], "rows_text": [(ROWS,)],
    "rows_from": [("is 0 1\npick 0",)], "answers": [(TEXT + "\nat 5\nleast\nweights 1 2 3 4 5\nleast",), (TEXT,)],
}

# Questions that are refused, with the refusal's class and fields; several are due in most of them.
REFUSED = [
    ("stretches_of", (TWICE,), Twice, {"one": 0, "other": 2, "number": 1}),
    ("run", (ROWS, 3), Beyond, {"row": 2}),
    ("plan_within", (STRETCHES, WEIGHTS, PRICES, SIZES, 1), TooNarrow, {}),
    ("weights_of", (STRETCHES, [0, 11, -1, 12]), NoStretch, {"place": 1}),
    ("counted", ([("below", 5, 2), ("table", 9, (3,)), ("mask", 0, 2, 1, 3), ("pick", 0)], [0, 4, 20]), Beyond, {"row": 2}),
    ("counted", ([("below", 5, 2), ("table", 9, (3,)), ("mask", 0, 2, 1, 3), ("pick", 0)], [0, 20, 4]), Beyond, {"row": 1}),
    ("choice_from", ("choice 8 1\ncase 1\ncase 128\ncase  2\nx",), BadText, {"row": 2}),
    ("rows_from", ("is 0 1\nis 0 1\nis 0 9",), BadText, {"row": 1}),
    ("answers", ("choice 8 1\ncase 128\nat 128\nx",), BadText, {"row": 1}),
    ("answers", ("choice 8 1\ncase 1\nat 1\nat 128\nx",), BadText, {"row": 3}),
]


def function_of(name):
    """The function of a name, from the file that the document tells."""
    for file, names in INTERFACE.items():
        if name in names:
            return getattr(importlib.import_module("caseways." + file), name)
    raise KeyError(name)


def asked():
    """All questions, as pairs (name, arguments)."""
    return [(name, given) for name, questions in QUESTIONS.items() for given in questions]


def lists_in(thing):
    """All lists in a thing, itself too."""
    found = [thing] if isinstance(thing, list) else []
    if isinstance(thing, (list, tuple)):
        for part in thing:
            found += lists_in(part)
    return found


def kinds_in(thing):
    """The kinds of all things in a thing."""
    if isinstance(thing, (list, tuple)):
        return {type(thing)}.union(*[kinds_in(part) for part in thing])
    return {type(thing)}


class Interface(unittest.TestCase):
    def test_names_and_arguments(self):
        for file, names in INTERFACE.items():
            for name, arguments in names.items():
                told = inspect.signature(function_of(name)).parameters
                self.assertEqual(list(told), arguments.split(), name)
                self.assertTrue(all(part.default is inspect.Parameter.empty for part in told.values()), name)

    def test_each_function_is_asked_here(self):
        self.assertEqual(sorted(QUESTIONS), sorted(name for names in INTERFACE.values() for name in names))

    def test_refusals(self):
        for refusal, fields in (
            (Twice, ["one", "other", "number"]), (Beyond, ["row"]), (NoStretch, ["place"]), (BadText, ["row"]),
        ):
            made = refusal(*range(5, 5 + len(fields)))
            self.assertEqual([getattr(made, field) for field in fields], list(range(5, 5 + len(fields))))
            self.assertIs(refusal.__base__, CaseError)
        self.assertEqual(str(TooNarrow("words")), "words")
        self.assertIs(TooNarrow.__base__, CaseError)
        self.assertIs(CaseError.__base__, ValueError)


class AskedAgain(unittest.TestCase):
    def test_asked_twice_with_others_between(self):
        told = [(name, given, function_of(name)(*copy.deepcopy(given))) for name, given in asked()]
        for name, given, first in told[::-1]:
            for refused, wrong, refusal, _ in REFUSED:
                if refused == name:
                    with self.assertRaises(refusal):
                        function_of(name)(*copy.deepcopy(wrong))
            again = function_of(name)(*copy.deepcopy(given))
            self.assertEqual(again, first, name)
            self.assertEqual(repr(again), repr(first), name)

    def test_nothing_handed_in_is_changed(self):
        for name, given in asked():
            handed = copy.deepcopy(given)
            function_of(name)(*handed)
            self.assertEqual(repr(handed), repr(given), name)
        for name, given, refusal, _ in REFUSED:
            handed = copy.deepcopy(given)
            with self.assertRaises(refusal):
                function_of(name)(*handed)
            self.assertEqual(repr(handed), repr(given), name)

    def test_told_lists_changed_by_the_asker(self):
        for name, given in asked():
            handed = copy.deepcopy(given)
            told = function_of(name)(*handed)
            kept = copy.deepcopy(told)
            for part in lists_in(told):
                part.append("changed")
            for part in lists_in(told):
                part.clear()
            self.assertEqual(repr(handed), repr(given), name)
            self.assertEqual(function_of(name)(*handed), kept, name)

    def test_handed_lists_changed_by_the_asker(self):
        for name, given in asked():
            handed = copy.deepcopy(given)
            told = function_of(name)(*handed)
            kept = copy.deepcopy(told)
            for part in lists_in(handed):
                part.clear()
            self.assertEqual(told, kept, name)
            self.assertEqual(function_of(name)(*copy.deepcopy(given)), kept, name)

    def test_no_two_told_lists_are_one_and_the_same(self):
        handed = copy.deepcopy(asked())
        told = [function_of(name)(*given) for name, given in handed + handed]
        found = lists_in(told)
        self.assertEqual(len({id(part) for part in found}), len(found))
        own = {id(part) for name, given in handed for part in lists_in(given)}
        self.assertFalse(own & {id(part) for part in found})

    def test_kinds_of_what_is_told(self):
        for name, given in asked():
            told = function_of(name)(*copy.deepcopy(given))
            self.assertLessEqual(kinds_in(told), {int, str, list, tuple, bool, type(None)}, name)
            if name.startswith(("is_", "shows_")) or name in ("picks", "leads_right"):
                self.assertIs(type(told), bool, name)
            else:
                self.assertNotIn(bool, kinds_in(told), name)

    def test_the_first_refusal_told_goes(self):
        for name, given, refusal, fields in REFUSED:
            with self.assertRaises(CaseError) as caught:
                function_of(name)(*copy.deepcopy(given))
            self.assertIs(type(caught.exception), refusal, name)
            for field, value in fields.items():
                self.assertEqual(getattr(caught.exception, field), value, (name, given))

    def test_lookers_may_be_asked_of_anything(self):
        lookers = {
            "is_choice": (), "is_stretches": (), "is_rows": (), "is_plan": (STRETCHES,),
            "shows_runs": (STRETCHES, WEIGHTS, PRICES), "shows_costs": (STRETCHES, WEIGHTS, PRICES), "shows_rooms": (STRETCHES, SIZES),
        }
        for name, ahead in lookers.items():
            for thing in ODD_THINGS + [0, -1, 5, [[]], ((),), ("pick",), ("table", 1), [("pick", True)]]:
                kept = repr(thing)
                self.assertIs(function_of(name)(*ahead, thing), False, (name, thing))
                self.assertEqual(repr(thing), kept)


class FewBits(unittest.TestCase):
    """Point [1]: whatever the plan, rows go to the case that the plain reading tells."""

    def check(self, choice, chance):
        width, sign = choice[:2]
        numbers = list(numbers_of_kind(width, sign))
        self.assertIsNone(clash_of(choice))
        row = stretches_of(choice)
        self.assertIs(is_stretches(row), True)
        prices, sizes = some_prices(chance, 5), some_prices(chance, 6)
        drawn = [chance.choice(numbers) for _ in range(chance.randrange(80))]
        weights = weights_of(row, drawn)
        for plan, cost, room in self.plans_of(row, weights, prices, sizes):
            self.assertIs(is_plan(row, plan), True)
            rows = rows_of(row, plan)
            self.assertIs(is_rows(rows), True)
            self.assertIsNone(beyond_of(rows, numbers[0], numbers[-1]))
            self.assertIs(leads_right(rows, row), True)
            for number in numbers:
                self.assertEqual(run(rows, number)[0], plain_picked(choice, number), (choice, plan, number))
            self.assertEqual(weighed(rows, counted(rows, drawn), prices), cost_of(row, weights, prices, plan))
            self.assertEqual(weighed(rows, counted(rows, drawn), prices), cost)
            self.assertEqual(room_of(row, sizes, plan), room)
            self.assertEqual(rows_from(rows_text(rows)), rows)
        self.check_told(choice, row, numbers)

    def plans_of(self, row, weights, prices, sizes):
        """Triples (plan, told cost, told room), as far as they are told, else reckoned."""
        plans = [halves_plan(row, weights), best_row(row, weights, prices)]
        plans += [row_plan(row, weights, prices, label) for label in sorted({stretch[2] for stretch in row})]
        told = [(plan, cost_of(row, weights, prices, plan), room_of(row, sizes, plan)) for plan in plans]
        cost, plan = least_in_runs(row, weights, prices)
        told.append((plan, cost, room_of(row, sizes, plan)))
        if len(row) <= 9:
            cost, plan = least_plan(row, weights, prices)
            room, narrow = least_room(row, sizes)
            told += [(plan, cost, room_of(row, sizes, plan)), (narrow, cost_of(row, weights, prices, narrow), room)]
            self.assertLessEqual(cost, min(other for _, other, _ in told))
            self.assertLessEqual(room, min(other for _, _, other in told))
        if len(row) <= 6:
            for room, cost in stair(row, weights, prices, sizes):
                told.append((plan_within(row, weights, prices, sizes, room), cost, room))
        self.assertEqual(halves_cost(row, weights), cost_of(row, weights, (1,) * 5, plans[0]))
        return told

    def check_told(self, choice, row, numbers):
        """What choices, stretches and the desk tell of each number."""
        gone_to = {plain_picked(choice, number) for number in numbers}
        self.assertEqual(dead_cases(choice), [label for label in range(len(choice[2])) if label not in gone_to])
        text = choice_text(choice)
        self.assertEqual(choice_from(text), choice)
        told = answers("\n".join([text] + [f"at {number}" for number in numbers]))
        for number, answer in zip(numbers, told):
            label = plain_picked(choice, number)
            self.assertEqual(picked(choice, number), label)
            self.assertEqual(label_at(row, number), label)
            self.assertEqual(answer, "rest" if label == len(choice[2]) else f"case {label}")

    def test_drawn_choices(self):
        chance = random.Random(11)
        for width, sign in [(width, sign) for width in range(1, 7) for sign in (0, 1)]:
            for _ in range(8):
                self.check(some_cut_choice(chance, width, sign, 4, chance.randrange(9)), chance)
                self.check(some_bits_choice(chance, width, sign, 4), chance)

    def test_every_choice_of_two_bits(self):
        # Each number goes to one of two cases or to the rest.
        chance = random.Random(12)
        for sign in (0, 1):
            numbers = numbers_of_kind(2, sign)
            for way in range(3 ** 4):
                labels = [way // 3 ** place % 3 for place in range(4)]
                cases = [[("is", number) for number, own in zip(numbers, labels) if own == label] for label in range(2)]
                self.check((2, sign, cases), chance)


class WideNumbers(unittest.TestCase):
    def test_least_plans_of_wide_kinds_lead_right(self):
        chance = random.Random(13)
        for width, sign in ((33, 0), (40, 0), (40, 1)):
            for _ in range(5):
                choice = some_cut_choice(chance, width, sign, 5, 8)
                row = stretches_of(choice)
                weights = [chance.randrange(10 ** 6) for _ in row]
                prices, sizes = some_prices(chance, 5), some_prices(chance, 6)
                for plan in (
                    halves_plan(row, weights), best_row(row, weights, prices), least_in_runs(row, weights, prices)[1],
                    least_plan(row, weights, prices)[1], least_room(row, sizes)[1],
                ):
                    rows = rows_of(row, plan)
                    self.assertIs(leads_right(rows, row), True)
                    self.assertIsNone(beyond_of(rows, row[0][0], row[-1][1]))
                    for number in [low for low, _, _ in row] + [high for _, high, _ in row]:
                        self.assertEqual(run(rows, number)[0], plain_picked(choice, number))


class AtTheBounds(unittest.TestCase):
    def test_60_stretches(self):
        choice = (40, 1, [[("from", 1000 * k, 1000 * k + k) for k in range(case, 30, 5)] for case in range(5)])
        row = stretches_of(choice)
        self.assertEqual(len(row), 61)
        weights = [10 ** 6 - k for k in range(61)]
        prices, sizes = (99, 98, 97, 96, 95), (99, 98, 97, 96, 95, 94)
        for plan in (best_row(row, weights, prices), halves_plan(row, weights)):
            rows = rows_of(row, plan)
            self.assertIs(leads_right(rows, row), True)
            numbers = [low for low, _, _ in row] * 30
            told = weighed(rows, counted(rows, numbers), prices)
            self.assertEqual(told, cost_of(row, weights_of(row, numbers), prices, plan))
            self.assertGreater(room_of(row, sizes, plan), 0)

    def test_400_stretches_told_and_handed_in_again(self):
        choice = (40, 0, [[("is", 4 * k + case) for k in range(100)] for case in range(3)])
        row = stretches_of(choice)
        self.assertEqual(len(row), 400)
        self.assertIs(is_stretches(row), True)
        plan = best_row(row, [1] * 400, (1,) * 5)
        self.assertIs(is_plan(row, plan), True)
        self.assertIs(leads_right(rows_of(row, plan), row), True)
        self.assertEqual(rows_from(rows_text(rows_of(row, plan))), rows_of(row, plan))
        self.assertEqual(answers(choice_text(choice) + "\nstretches\nhalves\nleast"), ["400", "too great", "too great"])


if __name__ == "__main__":
    unittest.main()
