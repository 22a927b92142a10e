"""Point [24]: the desk."""

import random
import unittest

from caseways.desk import answers
from caseways.errors import BadText, CaseError
from caseways.halves import halves_cost
from caseways.leasts import least_plan, least_room
from caseways.runs import least_in_runs
from caseways.texts import choice_text
from helper import BAD_NUMBERS, KINDS, edges_of, garbled, is_kind_text, numbers_of_kind, plain_case, plain_clash
from helper import plain_dead, plain_lines, plain_numbers, plain_picked, plain_stretches, plain_words, some_choice
from helper import some_cut_choice, some_weights

CHOICE = "choice 8 1\ncase 0\ncase -128..-1 100"
# Case 1 picks what case 0 does, case 2 picks nothing.
CLASHING = "choice 4 0\ncase 3..5\ncase 5 4\ncase"
PLAIN = ["clash", "dead", "stretches", "halves", "runs", "least", "room"]
OF_STRETCHES = ["stretches", "halves", "runs", "least", "room"]


def choice_of(many):
    """The text of a choice of so many stretches, more than one."""
    first = many % 2
    return "choice 9 0\ncase " + " ".join(str(2 * k + first) for k in range(many // 2))


def ones(many):
    """So many words 1."""
    return " ".join(["1"] * many)


class Checks(unittest.TestCase):
    def check(self, choice, deeds, told):
        """Whether the deeds behind a choice's text are answered so."""
        answered = answers("\n".join([choice] + deeds))
        self.assertEqual(answered, told, deeds)
        self.assertIs(type(answered), list)
        self.assertLessEqual({type(text) for text in answered}, {str})

    def refused(self, text, row):
        with self.assertRaises(BadText, msg=repr(text)) as caught:
            answers(text)
        self.assertEqual(caught.exception.row, row, repr(text))
        self.assertIs(type(caught.exception.row), int)

    def refused_deed(self, deed):
        """Whether a row is refused straight behind the choice's, behind a deed, and ahead of one."""
        self.refused(f"{CHOICE}\n{deed}", 3)
        self.refused(f"{CHOICE}\nclash\n{deed}", 4)
        self.refused(f"{CHOICE}\nat 5\n{deed}\nclash", 4)
        self.refused(f"{CLASHING}\n{deed}", 4)


class Asks(Checks):
    def test_no_deeds_at_all(self):
        self.check(CHOICE, [], [])
        self.check("choice 8 1", [], [])
        self.check(CLASHING, [], [])

    def test_at(self):
        self.check(CHOICE, ["at 0", "at -1", "at -128", "at 100", "at 101", "at 127"], [
            "case 0", "case 1", "case 1", "case 1", "rest", "rest",
        ])
        self.check("choice 1 1", ["at 0", "at -1"], ["rest", "rest"])
        self.check(CLASHING, ["at 3", "at 4", "at 5", "at 6"], ["case 0", "case 0", "case 0", "rest"])

    def test_clash(self):
        self.check(CHOICE, ["clash"], ["none"])
        self.check(CLASHING, ["clash"], ["0 1 4"])
        self.check("choice 4 1\ncase\ncase -3\ncase -8..-1", ["clash"], ["1 2 -3"])

    def test_dead(self):
        self.check(CHOICE, ["dead"], ["-"])
        self.check(CLASHING, ["dead"], ["1 2"])
        self.check("choice 4 0\ncase\ncase 1", ["dead"], ["0"])
        self.check("choice 4 0", ["dead"], ["-"])

    def test_stretches(self):
        self.check(CHOICE, ["stretches"], ["5"])
        self.check("choice 8 1", ["stretches"], ["1"])
        for many in (2, 3, 30, 31, 60, 400):
            self.check(choice_of(many), ["stretches"], [str(many)])

    def test_costs_and_room_at_first(self):
        self.check(CHOICE, ["halves", "runs", "least", "room"], ["12", "9", "9", "3"])
        self.check("choice 8 1", ["halves", "runs", "least", "room"], ["0", "0", "0", "0"])
        # Of three stretches a table costs 1 each; two labels are told apart by a single test.
        self.check("choice 4 0\ncase 3", ["halves", "runs", "least", "room"], ["5", "3", "3", "1"])

    def test_in_any_order(self):
        self.check(CHOICE, ["room", "at 0", "least", "clash", "at 5", "dead", "at 0", "room"], [
            "3", "case 0", "9", "none", "rest", "-", "case 0", "3",
        ])


class Deeds(Checks):
    def test_weights(self):
        self.check("choice 4 0\ncase 3", ["weights 5 1 2", "halves", "runs", "least", "room"], ["done", "11", "8", "8", "1"])
        self.check("choice 4 0\ncase 3", ["weights 0 0 0", "halves", "runs", "least"], ["done", "0", "0", "0"])
        self.check("choice 4 0", ["weights 1000000", "halves"], ["done", "0"])
        self.check(CHOICE, ["weights 0 0 1000000 0 1", "halves"], ["done", "2000002"])

    def test_weights_told_again(self):
        self.check("choice 4 0\ncase 3", ["weights 5 1 2", "weights 1 1 1", "halves", "weights 9 0 0", "halves"], [
            "done", "done", "5", "done", "9",
        ])

    def test_weights_of_another_count(self):
        for words in (ones(1), ones(2), ones(4), ones(30), "7 7"):
            self.check("choice 4 0\ncase 3", ["weights 5 1 2", f"weights {words}", "halves", "least"], [
                "done", "unlike", "11", "8",
            ])
            self.check("choice 4 0\ncase 3", [f"weights {words}", "halves"], ["unlike", "5"])

    def test_prices(self):
        row = "choice 4 0\ncase 3"
        self.check(row, ["prices 9 9 9 2 9", "runs", "least", "halves", "room"], ["done", "6", "6", "5", "1"])
        self.check(row, ["prices 9 9 9 9 4", "least", "prices 3 9 9 9 9", "least"], ["done", "12", "done", "9"])
        self.check(row, ["prices 9 2 9 9 9", "runs", "prices 99 99 1 99 99", "runs", "least"], ["done", "6", "done", "5", "5"])
        self.check(row, ["prices 1 1 1 1 1", "prices 99 99 99 99 99", "runs"], ["done", "done", "297"])

    def test_sizes(self):
        row = "choice 4 0\ncase 3"
        self.check(row, ["sizes 7 9 9 8 9 9", "room", "least"], ["done", "7", "3"])
        self.check(row, ["sizes 9 6 9 9 9 9", "room"], ["done", "6"])
        self.check(row, ["sizes 99 99 5 99 1 99", "room"], ["done", "10"])
        self.check(row, ["sizes 99 99 99 98 99 99", "room"], ["done", "98"])
        self.check(row, ["sizes 99 99 99 99 4 2", "room"], ["done", str(4 + 2 * 16)])

    def test_all_told_together(self):
        weights, prices, sizes = [4, 3, 2, 1, 9], (5, 4, 3, 2, 7), (3, 4, 5, 6, 9, 2)
        row = [(-128, -1, 1), (0, 0, 0), (1, 99, 2), (100, 100, 1), (101, 127, 2)]
        deeds = ["weights 4 3 2 1 9", "prices 5 4 3 2 7", "sizes 3 4 5 6 9 2", "halves", "runs", "least", "room"]
        self.check(CHOICE, deeds, ["done"] * 3 + [
            str(halves_cost(row, weights)),
            str(least_in_runs(row, weights, prices)[0]),
            str(least_plan(row, weights, prices)[0]),
            str(least_room(row, sizes)[0]),
        ])

    def test_what_an_earlier_text_told_is_gone(self):
        row = "choice 4 0\ncase 3"
        self.check(row, ["weights 9 9 9", "prices 9 9 9 9 9", "sizes 9 9 9 9 9 9"], ["done"] * 3)
        self.check(row, ["halves", "runs", "least", "room"], ["5", "3", "3", "1"])


class Clashing(Checks):
    def test_ahead_of_all_else(self):
        for ask in OF_STRETCHES + ["weights 1", f"weights {ones(3)}", f"weights {ones(400)}"]:
            self.check(CLASHING, [ask], ["clashing"])
        many = "choice 9 0\ncase " + " ".join(str(2 * k) for k in range(60)) + "\ncase 4"
        for ask in OF_STRETCHES:
            self.check(many, [ask], ["clashing"])

    def test_the_others_are_answered(self):
        self.check(CLASHING, ["at 4", "clash", "dead", "prices 1 2 3 4 5", "sizes 1 2 3 4 5 6"], [
            "case 0", "0 1 4", "1 2", "done", "done",
        ])

    def test_in_turn(self):
        self.check(CLASHING, ["weights 1", "at 9", "least", "prices 9 9 9 9 9", "room", "stretches", "clash"], [
            "clashing", "rest", "clashing", "done", "clashing", "clashing", "0 1 4",
        ])

    def test_badly_written_all_the_same(self):
        self.refused(f"{CLASHING}\nweights", 4)
        self.refused(f"{CLASHING}\nweights 1000001", 4)
        self.refused(f"{CLASHING}\nat 16", 4)


class TooGreat(Checks):
    def test_halves_and_runs(self):
        for many, great in ((2, False), (29, False), (30, False), (31, True), (32, True), (60, True), (400, True)):
            told = answers("\n".join([choice_of(many), "halves", "runs", "stretches"]))
            self.assertEqual([text == "too great" for text in told], [great, great, False], many)

    def test_least_and_room(self):
        for many, great in ((2, False), (9, False), (10, False), (11, True), (12, True), (30, True), (400, True)):
            told = answers("\n".join([choice_of(many), "least", "room", "stretches"]))
            self.assertEqual([text == "too great" for text in told], [great, great, False], many)

    def test_at_the_bounds(self):
        row = [(k, k, k % 2) for k in range(9)] + [(9, 511, 1)]
        self.check(choice_of(10), ["stretches", "least", "room"], [
            "10", str(least_plan(row, [1] * 10, (1,) * 5)[0]), str(least_room(row, (1,) * 6)[0]),
        ])
        row = [(k, k, k % 2) for k in range(29)] + [(29, 511, 1)]
        self.check(choice_of(30), ["stretches", "halves", "runs", "least"], [
            "30", str(halves_cost(row, [1] * 30)), str(least_in_runs(row, [1] * 30, (1,) * 5)[0]), "too great",
        ])

    def test_weights_are_done_however_many(self):
        for many in (31, 400):
            self.check(choice_of(many), [f"weights {ones(many)}", f"weights {ones(many + 1)}", "runs"], [
                "done", "unlike", "too great",
            ])


class BadRows(Checks):
    def test_the_choices_rows_as_choice_from(self):
        self.refused("", 0)
        self.refused("clash", 0)
        self.refused("case 1\nclash", 0)
        self.refused("choice 41 0\nclash", 0)
        self.refused("choice 8 1 \nclash", 0)
        self.refused("choice 8 1\ncase 128\nclash", 1)
        self.refused("choice 8 1\ncase 1\ncase 5..4\nclash", 2)
        self.refused("choice 8 1\ncase 1\ncase \nclash", 2)
        self.refused("choice 8 1\ncase 1\ncase 1  2\nnothing", 2)
        self.refused("choice 8 2\ncase 1\nclash", 0)

    def test_the_choices_rows_first(self):
        self.refused("choice 8 1\ncase 128\nnothing", 1)
        self.refused("choice 8 1\ncase\nnothing\ncase 128", 2)
        self.refused("choice 0 0\nnothing", 0)

    def test_a_cases_row_behind_a_deed(self):
        self.refused("choice 8 1\nclash\ncase 1", 2)
        self.refused("choice 8 1\ncase 2\nat 2\ncase 1", 3)
        self.refused("choice 8 1\ncase 2\nat 2\ncase", 3)
        self.refused("choice 8 1\nclash\nchoice 8 1", 2)

    def test_the_first_further_row(self):
        self.refused(f"{CHOICE}\nclash\nat 128\nnothing", 4)
        self.refused(f"{CHOICE}\nclash\nnothing\nat 128", 4)
        self.refused(f"{CHOICE}\n" + "clash\n" * 200 + "Clash", 203)

    def test_words(self):
        for deed in (
            "", " ", "at", "at ", "at 1 ", " at 1", "at  1", "at 1 2", "at1", "At 1", "AT 1", "at x", "at 1..2", "at 3&1", "at\t1",
            "at 1\r", "at 1\t", "cases", "clash ", " clash", "clash 1", "clash  ", "Clash", "clashes", "clash\r", "dead -",
            "dead 0", "dead ", "stretches 5", "stretches ", "stretch", "halves 1", "halves ", "half", "runs 1", "run", "least 1",
            "least ", "room 3", "rooms", "weights", "weights ", "weights x", "weights  1", "weights 1  1", "weights 1 1 ",
            "weights 1,1", "weight 1", "Weights 1", "prices", "prices ", "prices 1 1 1 1", "prices 1 1 1 1 1 1", "prices 1 1 1 1  1",
            "prices 1 1 1 1 1 ", "prices 1 1 1 1 x", "price 1 1 1 1 1", "sizes", "sizes 1 1 1 1 1", "sizes 1 1 1 1 1 1 1",
            "sizes 1 1 1 1 1  1", "sizes 1 1 1 1 1 x", "size 1 1 1 1 1 1", "none", "done", "rest", "clash\u2028clash", "clash\x0bclash",
            "choice 8 1", "is 1", "pick 0", "\ufeffclash", "clash\x00",
        ):
            self.refused_deed(deed)

    def test_rows_that_are_empty(self):
        self.refused(f"{CHOICE}\n", 3)
        self.refused(f"{CHOICE}\nclash\n", 4)
        self.refused(f"{CHOICE}\n\nclash", 3)
        self.refused("choice 8 1\n", 1)

    def test_numbers_ill_written(self):
        for word in BAD_NUMBERS:
            self.refused_deed(f"at {word}")
            self.refused_deed(f"weights {word}")
            self.refused_deed(f"weights 1 1 {word} 1 1")
            self.refused_deed(f"prices 1 1 1 1 {word}")
            self.refused_deed(f"prices {word} 1 1 1 1")
            self.refused_deed(f"sizes 1 1 1 1 1 {word}")
            self.refused_deed(f"sizes {word} 1 1 1 1 1")

    def test_numbers_out_of_their_bounds(self):
        for width, sign in KINDS:
            kind = numbers_of_kind(width, sign)
            first = f"choice {width} {sign}"
            self.check(first, [f"at {kind[0]}", f"at {kind[-1]}"], ["rest", "rest"])
            self.refused(f"{first}\nat {kind[0] - 1}", 1)
            self.refused(f"{first}\nat {kind[-1] + 1}", 1)
        for weight in ("-1", "1000001", "9" * 20):
            self.refused_deed(f"weights {weight}")
            self.refused_deed(f"weights 1 1 1 1 {weight}")
            self.refused_deed(f"weights {ones(20)} {weight}")
        for place in range(5):
            for price in ("0", "100", "-1", "1000"):
                words = ["1"] * 5
                words[place] = price
                self.refused_deed("prices " + " ".join(words))
        for place in range(6):
            for size in ("0", "100", "-1", "1000"):
                words = ["1"] * 6
                words[place] = size
                self.refused_deed("sizes " + " ".join(words))
        self.check("choice 8 1", ["prices 1 99 1 99 1", "sizes 99 1 99 1 99 1", "weights 0", "weights 1000000"], ["done"] * 4)

    def test_a_refusal_is_a_case_error(self):
        with self.assertRaises(CaseError):
            answers("nothing")


def plain_first_bad(text):
    """The number of the first bad row of a desk's text, or None."""
    lines = plain_lines(text)
    if not is_kind_text(lines[0]):
        return 0
    width, sign = [int(word) for word in lines[0].split(" ")[1:]]
    may_be_case = True
    for own, line in enumerate(lines[1:], 1):
        words = plain_words(line)
        if may_be_case and words and words[0] == "case":
            if plain_case(width, sign, line) is None:
                return own
            continue
        may_be_case = False
        if not words or not plain_may_ask(width, sign, words[0], plain_numbers(words[1:])):
            return own
    return None


def plain_may_ask(width, sign, word, numbers):
    """Whether a deed or an ask may have such numbers."""
    if numbers is None:
        return False
    if word == "at":
        return len(numbers) == 1 and numbers[0] in numbers_of_kind(width, sign)
    if word == "weights":
        return numbers != [] and all(number in range(10 ** 6 + 1) for number in numbers)
    if word in ("prices", "sizes"):
        return len(numbers) == {"prices": 5, "sizes": 6}[word] and all(number in range(1, 100) for number in numbers)
    return word in PLAIN and numbers == []


class Drawn(Checks):
    def some_deed(self, chance, width, sign, many):
        """A deed or an ask, mostly a right one."""
        word = chance.choice(PLAIN + ["at", "at", "weights", "weights", "prices", "sizes"])
        if word == "at":
            return f"at {chance.choice(numbers_of_kind(width, sign))}"
        if word == "weights":
            many = chance.choice([many, many, many, many + 1, 1])
            return " ".join(["weights"] + [str(weight) for weight in some_weights(chance, many)])
        if word in ("prices", "sizes"):
            return " ".join([word] + [str(chance.randrange(1, 100)) for _ in range({"prices": 5, "sizes": 6}[word])])
        return word

    def plain_answers(self, choice, row, deeds):
        """The answers to right deeds; row is None where cases clash."""
        edges = edges_of(choice)
        weights, prices, sizes = [1] * len(row or []), (1,) * 5, (1,) * 6
        told = []
        for deed in deeds:
            word, *numbers = deed.split(" ")
            numbers = [int(number) for number in numbers]
            great = row is not None and len(row) > {"halves": 30, "runs": 30, "least": 10, "room": 10}.get(word, 10 ** 9)
            if word == "at":
                label = plain_picked(choice, numbers[0])
                told.append("rest" if label == len(choice[2]) else f"case {label}")
            elif word == "clash":
                clash = plain_clash(choice, edges)
                told.append("none" if clash is None else "{} {} {}".format(*clash))
            elif word == "dead":
                told.append(" ".join(map(str, plain_dead(choice, edges))) or "-")
            elif word == "prices":
                prices = tuple(numbers)
                told.append("done")
            elif word == "sizes":
                sizes = tuple(numbers)
                told.append("done")
            elif row is None:
                told.append("clashing")
            elif great:
                told.append("too great")
            elif word == "weights":
                told.append("done" if len(numbers) == len(row) else "unlike")
                weights = numbers if len(numbers) == len(row) else weights
            else:
                told.append(str({
                    "stretches": lambda: len(row),
                    "halves": lambda: halves_cost(row, weights),
                    "runs": lambda: least_in_runs(row, weights, prices)[0],
                    "least": lambda: least_plan(row, weights, prices)[0],
                    "room": lambda: least_room(row, sizes)[0],
                }[word]()))
        return told

    def test_right_texts(self):
        chance = random.Random(241)
        seen = set()
        for _ in range(150):
            width, sign = chance.choice([(1, 0), (3, 1), (6, 0), (8, 1), (40, 1)])
            choice = some_cut_choice(chance, width, sign, 4, chance.choice([2, 5, 12, 50]))
            if not chance.randrange(4):
                choice = some_choice(chance, width, sign, 3, 2)
            edges = edges_of(choice)
            row = plain_stretches(choice, edges) if plain_clash(choice, edges) is None else None
            deeds = [self.some_deed(chance, width, sign, len(row or [1])) for _ in range(chance.randrange(15))]
            told = self.plain_answers(choice, row, deeds)
            seen |= set(told)
            self.check(choice_text(choice), deeds, told)
        self.assertLessEqual({"rest", "case 0", "none", "-", "done", "unlike", "clashing", "too great"}, seen)

    def test_garbled_texts(self):
        chance = random.Random(242)
        told = {"right": 0, "bad": 0}
        for _ in range(4000):
            width, sign = chance.choice([(1, 0), (3, 1), (4, 0)])
            choice = some_choice(chance, width, sign, 2, 2)
            deeds = [self.some_deed(chance, width, sign, 3) for _ in range(chance.randrange(5))]
            text = garbled(chance, "\n".join([choice_text(choice)] + deeds), "casetwighlrun.&-+0123456789 \n\r\t\u0663")
            bad = plain_first_bad(text)
            told["right" if bad is None else "bad"] += 1
            if bad is None:
                lines = plain_lines(text)
                cases = [line for line in lines[1:] if line.split(" ")[0] == "case"]
                self.assertEqual(len(answers(text)), len(lines) - 1 - len(cases), repr(text))
            else:
                self.refused(text, bad)
        self.assertGreater(min(told.values()), 700)


class AskedAgain(unittest.TestCase):
    def test_told_lists_are_the_askers_own(self):
        text = f"{CHOICE}\nclash\nweights 1 2 3 4 5\nleast"
        told = answers(text)
        kept = list(told)
        told.clear()
        self.assertEqual(answers(text), kept)
        self.assertEqual(answers(CHOICE), [])
        answers(CHOICE).append("x")
        self.assertEqual(answers(CHOICE), [])

    def test_a_refusal_changes_nothing(self):
        text = f"{CHOICE}\nhalves"
        told = answers(text)
        with self.assertRaises(BadText):
            answers(f"{CHOICE}\nweights 9 9 9 9 9\nhalves\nnothing")
        self.assertEqual(answers(text), told)

    def test_300_rows(self):
        deeds = ["weights 4 3 2 1 9", "runs", "least", "room"] * 74
        told = answers("\n".join([CHOICE] + deeds))
        self.assertEqual(told, told[:4] * 74)


if __name__ == "__main__":
    unittest.main()
