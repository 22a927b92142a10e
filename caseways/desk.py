"""The desk: a choice's text with deeds and asks behind it, answered one by one."""

from caseways.choices import clash_of, dead_cases, picked
from caseways.errors import BadText
from caseways.halves import halves_cost
from caseways.leasts import least_plan, least_room
from caseways.numbers import least_of, most_of
from caseways.runs import least_in_runs
from caseways.stretches import stretches_of
from caseways.texts import choice_from, numbers_from

MOST_WEIGHT = 10 ** 6
MOST_PRICE = 99
# What can't be told, nor done, where cases clash.
OF_STRETCHES = ("stretches", "halves", "runs", "least", "room", "weights")
MOST_STRETCHES = {"halves": 30, "runs": 30, "least": 10, "room": 10}


class Desk:
    """A choice, and what is told of it so far."""

    def __init__(self, choice):
        self.choice = choice
        self.clash = clash_of(choice)
        self.stretches = stretches_of(choice) if self.clash is None else []
        self.weights = [1] * len(self.stretches)
        self.prices = (1, 1, 1, 1, 1)
        self.sizes = (1, 1, 1, 1, 1, 1)


def answer_at(desk, numbers):
    """Tell the case that a number goes to."""
    label = picked(desk.choice, numbers[0])
    return "rest" if label == len(desk.choice[2]) else f"case {label}"


def answer_clash(desk, numbers):
    """Tell the least number that two cases pick, with the two ahead."""
    return "none" if desk.clash is None else " ".join([str(part) for part in desk.clash])


def answer_dead(desk, numbers):
    """Tell the cases that no number goes to."""
    dead = dead_cases(desk.choice)
    return " ".join([str(case) for case in dead]) if dead else "-"


def answer_stretches(desk, numbers):
    """Tell how many stretches there are."""
    return str(len(desk.stretches))


def answer_halves(desk, numbers):
    """Tell the least cost of trees of halves."""
    return str(halves_cost(desk.stretches, desk.weights))


def answer_runs(desk, numbers):
    """Tell the least cost of plans in runs."""
    cost, plan = least_in_runs(desk.stretches, desk.weights, desk.prices)
    return str(cost)


def answer_least(desk, numbers):
    """Tell the least cost of all plans."""
    cost, plan = least_plan(desk.stretches, desk.weights, desk.prices)
    return str(cost)


def answer_room(desk, numbers):
    """Tell the least room of all plans."""
    room, plan = least_room(desk.stretches, desk.sizes)
    return str(room)


def do_weights(desk, numbers):
    """Take other weights, where there are as many as stretches."""
    if len(numbers) != len(desk.stretches):
        return "unlike"
    desk.weights = numbers
    return "done"


def do_prices(desk, numbers):
    """Take other prices."""
    desk.prices = tuple(numbers)
    return "done"


def do_sizes(desk, numbers):
    """Take other sizes."""
    desk.sizes = tuple(numbers)
    return "done"


ANSWERS = {
    "at": answer_at,
    "clash": answer_clash,
    "dead": answer_dead,
    "stretches": answer_stretches,
    "halves": answer_halves,
    "runs": answer_runs,
    "least": answer_least,
    "room": answer_room,
    "weights": do_weights,
    "prices": do_prices,
    "sizes": do_sizes,
}


def all_within(numbers, low, high):
    """Tell whether all of some numbers are from low to high."""
    return all([low <= number <= high for number in numbers])


def may_have(choice, word, numbers):
    """Tell whether just these numbers may stand behind the word of a deed or an ask."""
    if word == "at":
        return len(numbers) == 1 and all_within(numbers, least_of(choice[0], choice[1]), most_of(choice[0], choice[1]))
    if word == "weights":
        return len(numbers) >= 1 and all_within(numbers, 0, MOST_WEIGHT)
    if word == "prices":
        return len(numbers) == 5 and all_within(numbers, 1, MOST_PRICE)
    if word == "sizes":
        return len(numbers) == 6 and all_within(numbers, 1, MOST_PRICE)
    return len(numbers) == 0


def deed_from(choice, row):
    """Tell the pair (word, numbers) of a row that is a deed or an ask, or None."""
    words = row.split(" ")
    numbers = numbers_from(words[1:])
    if words[0] not in ANSWERS or numbers is None or not may_have(choice, words[0], numbers):
        return None
    return (words[0], numbers)


def rows_of_choice(rows):
    """Tell how many rows a choice's text has: the first row and the case rows straight behind it."""
    many = 1
    while many < len(rows) and rows[many].split(" ")[0] == "case":
        many += 1
    return many


def answer(desk, word, numbers):
    """Tell the answer to a single deed or ask."""
    if desk.clash is not None and word in OF_STRETCHES:
        return "clashing"
    if word in MOST_STRETCHES and len(desk.stretches) > MOST_STRETCHES[word]:
        return "too great"
    action = ANSWERS[word]
    return action(desk, numbers)


def answers(text):
    """Tell the answers to all deeds and asks of a text; refused, ahead of all of them, with the first bad row."""
    rows = text.split("\n")
    many = rows_of_choice(rows)
    choice = choice_from("\n".join(rows[:many]))
    deeds = []
    for own, row in enumerate(rows[many:], start=many):
        deed = deed_from(choice, row)
        if deed is None:
            raise BadText(own)
        deeds.append(deed)
    desk = Desk(choice)
    return [answer(desk, word, numbers) for word, numbers in deeds]
