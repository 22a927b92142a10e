"""What the tests share: plain readings of the document, and choices to ask about.

Nothing here imports the program, so that a fault of it can't hide itself.
"""

import functools
import itertools
import re

KINDS = [(width, sign) for width in range(1, 41) for sign in (0, 1)]
SMALL_KINDS = [(width, sign) for width, sign in KINDS if width <= 6]
DEPTH = 80


def deep_things():
    """Things eighty deep, of lists, of tuples and of both in turn."""
    things = []
    for wraps in ([list], [tuple], [list, tuple]):
        thing = 7
        for depth in range(DEPTH):
            thing = wraps[depth % len(wraps)]([thing])
        things.append(thing)
    return things


ODD_THINGS = [None, True, False, "", "is", "8", (), [], (0,), [0], ("is", 0)] + deep_things()


def numbers_of_kind(width, sign):
    """All numbers of a kind, rising."""
    if sign:
        return range(-(2 ** (width - 1)), 2 ** (width - 1))
    return range(2 ** width)


def plain_number(pattern, width, sign):
    """The number of a kind with a pattern."""
    if sign and pattern >= 2 ** (width - 1):
        return pattern - 2 ** width
    return pattern


def plain_picks(width, item, number):
    """Whether an item picks a number, the bits one by one."""
    word, *parts = item
    if word == "is":
        return number == parts[0]
    if word == "from":
        return number in range(parts[0], parts[1] + 1)
    mask, value = parts
    pattern = number % 2 ** width
    for place in range(width):
        kept = pattern >> place & 1 if mask >> place & 1 else 0
        if kept != value >> place & 1:
            return False
    return True


def plain_labels(choice, number):
    """All cases that pick a number, rising."""
    width, _, cases = choice
    return [
        label
        for label, items in enumerate(cases)
        if any(plain_picks(width, item, number) for item in items)
    ]


def plain_picked(choice, number):
    """The label of a number."""
    return (plain_labels(choice, number) + [len(choice[2])])[0]


def plain_clash(choice, numbers):
    """The clash of a choice, by going over numbers, which rise."""
    for number in numbers:
        labels = plain_labels(choice, number)
        if len(labels) > 1:
            return (labels[0], labels[1], number)
    return None


def plain_dead(choice, numbers):
    """The dead cases of a choice, by going over numbers."""
    gone_to = {plain_picked(choice, number) for number in numbers}
    return [label for label in range(len(choice[2])) if label not in gone_to]


def bits_edges(width, sign, mask, value):
    """The first number of each stretch that bits pick, and the first one behind it."""
    if value & ~mask:
        return []
    if not mask:
        return [plain_number(2 ** (width - 1) if sign else 0, width, sign)]
    lowest = min(place for place in range(width) if mask >> place & 1)
    free = [2 ** place for place in range(lowest, width) if not mask >> place & 1]
    edges = []
    for some in itertools.product((0, 1), repeat=len(free)):
        pattern = value + sum(bit for bit, there in zip(free, some) if there)
        low = plain_number(pattern, width, sign)
        edges += [low, low + 2 ** lowest]
    return edges


def edges_of(choice):
    """Numbers such that each number is picked by just what picks the edge ahead of it.

    So these tell of a wide kind what going over all its numbers would.
    """
    width, sign, cases = choice
    kind = numbers_of_kind(width, sign)
    edges = [kind[0]]
    for word, *parts in itertools.chain(*cases):
        if word == "bits":
            edges += bits_edges(width, sign, *parts)
        else:
            edges += [parts[0], parts[-1] + 1]
    return sorted({edge for edge in edges if edge in kind})


def all_items(width, sign):
    """Each item that there is for a small kind."""
    kind = numbers_of_kind(width, sign)
    pairs = itertools.combinations_with_replacement(kind, 2)
    patterns = range(2 ** width)
    return (
        [("is", number) for number in kind]
        + [("from", low, high) for low, high in pairs]
        + [("bits", mask, value) for mask in patterns for value in patterns]
    )


def some_bits(chance, width):
    """A bits item with at most 256 stretches; now and then it picks none."""
    lowest = chance.randrange(width)
    above = list(range(lowest + 1, width))
    free = chance.sample(above, min(len(above), chance.randrange(9)))
    mask = sum(2 ** place for place in range(lowest, width) if place not in free)
    value = chance.randrange(2 ** width)
    if chance.randrange(8):
        value &= mask
    if not chance.randrange(8):
        mask = value = 0
    return ("bits", mask, value)


def some_item(chance, width, sign, near):
    """An item of any form; numbers lie at the ends of the kind, near others, or anywhere."""
    kind = numbers_of_kind(width, sign)

    def some_number():
        number = chance.choice([kind[0], kind[-1], chance.choice(kind)] + near)
        return min(max(number + chance.randrange(-1, 2), kind[0]), kind[-1])

    form = chance.randrange(3)
    if form == 0:
        return ("is", some_number())
    if form == 1:
        return ("from", *sorted([some_number(), some_number()]))
    return some_bits(chance, width)


def some_choice(chance, width, sign, most_cases, most_items):
    """A choice whose later items often touch, or say again, earlier ones."""
    cases = []
    made = []
    for _ in range(chance.randrange(most_cases + 1)):
        items = []
        for _ in range(chance.randrange(most_items + 1)):
            near = edges_of((width, sign, [chance.sample(made, min(2, len(made)))]))
            item = some_item(chance, width, sign, near)
            if made and not chance.randrange(6):
                item = chance.choice(made)
            made.append(item)
            items.append(item)
        cases.append(items)
    return (width, sign, cases)


def cut_points(chance, width, sign, many):
    """Rising numbers of a kind, the least one first; some side by side, some at the far end."""
    kind = numbers_of_kind(width, sign)
    points = {kind[0]}
    for _ in range(many):
        point = chance.choice([kind[-1], chance.choice(kind), chance.choice(sorted(points)) + 1])
        points.add(min(point, kind[-1]))
    return sorted(points)


def items_of_span(chance, low, high):
    """Items that pick together the numbers from low to high, and no others."""
    if low == high and chance.randrange(2):
        return [("is", low)]
    if low < high and not chance.randrange(3):
        middle = chance.randrange(low, high)
        return [("from", middle + 1, high), ("from", low, middle)]
    return [("from", low, high)]


def some_cut_choice(chance, width, sign, most_cases, cuts):
    """A choice without clashes: the kind is cut, each piece goes to one case or to the rest."""
    cases = [[] for _ in range(chance.randrange(most_cases + 1))]
    points = cut_points(chance, width, sign, cuts)
    for low, behind in zip(points, points[1:] + [numbers_of_kind(width, sign)[-1] + 1]):
        label = chance.randrange(len(cases) + 1)
        if label < len(cases):
            cases[label] += items_of_span(chance, low, behind - 1)
    for items in cases:
        chance.shuffle(items)
    return (width, sign, cases)


def some_bits_choice(chance, width, sign, most_cases):
    """A choice without clashes: all items are bits of one mask, no two values are alike."""
    mask = some_bits(chance, width)[1]
    values = {chance.randrange(2 ** width) & mask for _ in range(chance.choice([1, 2, 12]))}
    cases = [[] for _ in range(chance.randrange(most_cases + 1))]
    for value in sorted(values):
        label = chance.randrange(len(cases) + 1)
        if label < len(cases):
            cases[label].append(("bits", mask, value))
    return (width, sign, cases)


def plain_stretches(choice, edges):
    """The stretches of a choice, by going over rising numbers at which labels may change."""
    told = []
    for edge in edges:
        label = plain_picked(choice, edge)
        if not told or told[-1][2] != label:
            if told:
                told[-1][1] = edge - 1
            told.append([edge, None, label])
    told[-1][1] = numbers_of_kind(*choice[:2])[-1]
    return [tuple(stretch) for stretch in told]


def some_stretches(chance, many, labels, most_wide, low=None):
    """A row of stretches, each of at most so many numbers."""
    low = chance.randrange(-20, 20) if low is None else low
    told = []
    for _ in range(many):
        unlike = [label for label in range(labels) if not told or label != told[-1][2]]
        wide = 1 if chance.randrange(3) == 0 else chance.randrange(1, most_wide + 1)
        told.append((low, low + wide - 1, chance.choice(unlike)))
        low += wide
    return told


def plain_spans(numbers):
    """Rising numbers as pairs (low, high), as many side by side as may be."""
    told = []
    for number in numbers:
        if told and told[-1][1] == number - 1:
            told[-1] = (told[-1][0], number)
        else:
            told.append((number, number))
    return told


def plain_run(rows, number):
    """(label, done) of a number, or (None, row) where it reads that row beyond its ends."""
    at = 0
    done = []
    while True:
        done.append(at)
        word, *parts = rows[at]
        going = at + 1
        if word == "pick":
            return (parts[0], done)
        if word == "is" and number == parts[0]:
            going = parts[1]
        if word == "within" and number in range(parts[0], parts[1] + 1):
            going = parts[2]
        if word == "below" and number < parts[0]:
            going = parts[1]
        if word == "mask":
            low, wide, bits, goal = parts
            if number not in range(low, low + wide):
                return (None, at)
            if bits // 2 ** (number - low) % 2 == 1:
                going = goal
        if word == "table":
            low, goals = parts
            places = dict(enumerate(goals, low))
            if number not in places:
                return (None, at)
            going = places[number]
        at = going


def some_row(chance, own, many, low, high, most_wide):
    """A row for place own of many; its numbers lie about those from low to high."""
    def some_number():
        return chance.randrange(low - 2, high + 3)

    goal = chance.choice([own + 1, many - 1, chance.randrange(own + 1, many)])
    form = chance.randrange(6)
    if form == 0:
        return ("is", some_number(), goal)
    if form == 1:
        return ("within", *sorted([some_number(), some_number()]), goal)
    if form == 2:
        return ("below", some_number(), goal)
    first = chance.randrange(low - most_wide // 4, low + most_wide // 4 + 1)
    wide = chance.randrange(most_wide // 2, most_wide + 1)
    if form == 3:
        wide = min(wide, 64)
        return ("mask", first, wide, chance.randrange(2 ** wide), goal)
    if form == 4:
        return ("table", first, tuple(chance.randrange(own + 1, many) for _ in range(wide)))
    return ("pick", chance.randrange(3))


def some_rows(chance, many, low, high, most_wide):
    """Rows of all forms, the last one a pick; picks ahead of it are few."""
    rows = []
    for own in range(many - 1):
        row = some_row(chance, own, many, low, high, most_wide)
        while row[0] == "pick" and chance.randrange(4):
            row = some_row(chance, own, many, low, high, most_wide)
        rows.append(row)
    return rows + [("pick", chance.randrange(3))]


def all_of(stretches):
    """The numbers of all stretches of a row."""
    return list(range(len(stretches)))


def across(stretches, left):
    """How many numbers lie from the first stretch left to the last one."""
    return len(range(stretches[min(left)][0], stretches[max(left)][1] + 1))


def is_whole(thing):
    """Whether a thing is a number, and not True or False."""
    return type(thing) is int


def plain_is_plan(stretches, left, thing):
    """Whether a thing is a plan for the stretches left, form by form as the document tells them."""
    if type(thing) is not tuple:
        return False
    labels = {stretches[k][2] for k in left}
    match thing:
        case ("pick", label):
            return is_whole(label) and labels == {label}
        case ("is" | "within" as word, k, rest):
            if not is_whole(k) or k not in left or left == [k]:
                return False
            if word == "is" and stretches[k][0] != stretches[k][1]:
                return False
            return plain_is_plan(stretches, [other for other in left if other != k], rest)
        case ("below", k, one, other):
            if not is_whole(k) or k not in left or k == min(left):
                return False
            ahead = [part for part in left if part < k]
            behind = [part for part in left if part >= k]
            return plain_is_plan(stretches, ahead, one) and plain_is_plan(stretches, behind, other)
        case ("mask", label, rest):
            if not is_whole(label) or label not in labels or labels == {label} or across(stretches, left) > 64:
                return False
            return plain_is_plan(stretches, [k for k in left if stretches[k][2] != label], rest)
        case ("table",):
            return across(stretches, left) <= 200
    return False


def some_plan(chance, stretches, left):
    """A plan for the stretches left, of any forms that may stand there."""
    labels = sorted({stretches[k][2] for k in left})
    words = ["table"] if across(stretches, left) <= 200 and not chance.randrange(3) else []
    if len(labels) == 1:
        words += ["pick"] * 3
    if len(left) > 1:
        words += ["is", "within", "below", "below"]
    if len(labels) > 1 and across(stretches, left) <= 64:
        words += ["mask", "mask"]
    word = chance.choice(words)
    if word == "table":
        return ("table",)
    if word == "pick":
        return ("pick", labels[0])
    if word == "mask":
        label = chance.choice(labels)
        return ("mask", label, some_plan(chance, stretches, [k for k in left if stretches[k][2] != label]))
    if word == "below":
        k = chance.choice(left[1:])
        one, other = [part for part in left if part < k], [part for part in left if part >= k]
        return ("below", k, some_plan(chance, stretches, one), some_plan(chance, stretches, other))
    k = chance.choice(left)
    if stretches[k][0] != stretches[k][1]:
        word = "within"
    return (word, k, some_plan(chance, stretches, [other for other in left if other != k]))


def plain_way(stretches, plan, k):
    """The tests on the way of stretch k: each with its word, what it tests for, and who is left there."""
    left = all_of(stretches)
    way = []
    while plan[0] != "pick":
        word, *parts = plan
        way.append((word, parts[0] if parts else None, left))
        if word == "table" or (word in ("is", "within") and parts[0] == k):
            break
        if word == "mask" and parts[0] == stretches[k][2]:
            break
        if word == "below":
            left = [other for other in left if (other < parts[0]) == (k < parts[0])]
            plan = parts[1] if k < parts[0] else parts[2]
        elif word == "mask":
            left = [other for other in left if stretches[other][2] != parts[0]]
            plan = parts[1]
        else:
            left = [other for other in left if other != parts[0]]
            plan = parts[1]
    return way


WORDS = ["is", "within", "below", "mask", "table"]


def plain_cost(stretches, weights, prices, plan):
    """The cost of a plan, by going down each stretch's way."""
    cost = 0
    for k, weight in enumerate(weights):
        for word, _, _ in plain_way(stretches, plan, k):
            cost += weight * prices[WORDS.index(word)]
    return cost


def plain_room(stretches, sizes, plan):
    """The room of a plan: each test that is on some stretch's way once."""
    tests = {(word, which, tuple(left)) for k in all_of(stretches) for word, which, left in plain_way(stretches, plan, k)}
    room = 0
    for word, _, left in tests:
        room += sizes[WORDS.index(word)]
        if word == "table":
            room += sizes[5] * across(stretches, left)
    return room


def halves_of(stretches, first, behind):
    """Each plan of below and pick alone for the stretches from first to ahead of behind."""
    if behind - first == 1:
        return [("pick", stretches[first][2])]
    return [
        ("below", k, one, other)
        for k in range(first + 1, behind)
        for one in halves_of(stretches, first, k)
        for other in halves_of(stretches, k, behind)
    ]


def some_weights(chance, many):
    """Weights of many stretches: small ones, alike ones, great ones, some of 0."""
    most = chance.choice([1, 3, 10, 10 ** 6])
    return [chance.choice([0, chance.randrange(most + 1), chance.randrange(most + 1)]) for _ in range(many)]


def some_prices(chance, many):
    """So many prices or sizes."""
    most = chance.choice([1, 3, 99])
    return tuple(chance.randrange(1, most + 1) for _ in range(many))


def plain_row_plan(stretches, weights, prices, left, label):
    """The row of tests of the stretches left by a label, any two tests put in order as the document has it."""
    def price_of(test):
        return prices[WORDS.index(test[0])]

    def order(one, other):
        mine, yours = weights[one[1]] * price_of(other), weights[other[1]] * price_of(one)
        return yours - mine or one[1] - other[1]

    tests = []
    for k in left:
        low, high, own = stretches[k]
        if own != label:
            tests.append(("is" if low == high and prices[0] <= prices[1] else "within", k))
    plan = ("pick", label)
    for test in reversed(sorted(tests, key=functools.cmp_to_key(order))):
        plan = test + (plan,)
    return plan


def all_in_runs(stretches, weights, prices, first, behind):
    """Each plan in runs for the stretches from first to ahead of behind."""
    left = list(range(first, behind))
    labels = sorted({stretches[k][2] for k in left})
    plans = [plain_row_plan(stretches, weights, prices, left, label) for label in labels]
    if across(stretches, left) <= 200:
        plans.append(("table",))
    if across(stretches, left) <= 64 and len(labels) == 2:
        plans += [("mask", labels[0], ("pick", labels[1])), ("mask", labels[1], ("pick", labels[0]))]
    for k in left[1:]:
        for one in all_in_runs(stretches, weights, prices, first, k):
            plans += [("below", k, one, other) for other in all_in_runs(stretches, weights, prices, k, behind)]
    return plans


def all_plans(stretches, left):
    """Each plan for the stretches left, of any form that the document tells."""
    labels = sorted({stretches[k][2] for k in left})
    plans = [("pick", label) for label in labels if len(labels) == 1]
    if across(stretches, left) <= 200:
        plans.append(("table",))
    if across(stretches, left) <= 64 and len(labels) > 1:
        for label in labels:
            plans += [("mask", label, rest) for rest in all_plans(stretches, [k for k in left if stretches[k][2] != label])]
    if len(left) == 1:
        return plans
    for k in left:
        words = ["is", "within"] if stretches[k][0] == stretches[k][1] else ["within"]
        rests = all_plans(stretches, [other for other in left if other != k])
        plans += [(word, k, rest) for word in words for rest in rests]
        if k > left[0]:
            ones = all_plans(stretches, [other for other in left if other < k])
            others = all_plans(stretches, [other for other in left if other >= k])
            plans += [("below", k, one, other) for one in ones for other in others]
    return plans


def plain_bounds(stretches, left, charge, number_of):
    """What each way costs for the stretches left: its own charge, and the numbers of those left to plans."""
    labels = sorted({stretches[k][2] for k in left})
    ways = [("pick", [])] if len(labels) == 1 else []
    if across(stretches, left) <= 200:
        ways.append(("table", []))
    if across(stretches, left) <= 64 and len(labels) > 1:
        ways += [("mask", [[k for k in left if stretches[k][2] != label]]) for label in labels]
    if len(left) > 1:
        for k in left:
            rest = [other for other in left if other != k]
            ways.append(("within", [rest]))
            if stretches[k][0] == stretches[k][1]:
                ways.append(("is", [rest]))
        for place in range(1, len(left)):
            ways.append(("below", [left[:place], left[place:]]))
    return [charge(word, left) + sum(number_of(part) for part in parts) for word, parts in ways]


# How texts write a number, and words that look much like one.
NUMBER = re.compile(r"0|-?[1-9][0-9]{0,19}")
BAD_NUMBERS = [
    "", "-", "+", "--1", "-0", "00", "01", "-01", "+1", "+0", "1-", "1+", "1.", ".1", "1.0", "1,0", "1_0", "1e0", "0x1", "0b1",
    "x", "one", "\u0661", "\u00b2", "\u2460", "\uff11", "1\u0661", "\u22121", "1\u00a0", "\ufeff1", "\t1", "1\t", "1\r", "1\x0b",
    "1" * 21, "-" + "1" * 21, "0" * 21, "0" * 20 + "1", "9" * 400, "None", "True", "1/1", "'1'", "\"1\"", "1\x00",
]


def plain_lines(text):
    """The rows of a text, parted by line feeds alone."""
    return text.split(chr(10))


def plain_words(line):
    """The words of a row, parted by single blanks; None where they are not."""
    words = line.split(chr(32))
    return None if "" in words else words


def plain_numbers(words):
    """The numbers that words write, or None."""
    return [int(word) for word in words] if all(NUMBER.fullmatch(word) for word in words) else None


def is_kind_text(line):
    """Whether a row is the first one of a choice's text."""
    return re.fullmatch(r"choice ([1-9]|[123][0-9]|40) [01]", line) is not None


def plain_item(width, sign, word):
    """The item that a word writes, or None."""
    kind = numbers_of_kind(width, sign)
    if NUMBER.fullmatch(word):
        return ("is", int(word)) if int(word) in kind else None
    for part, name, there in (("..", "from", kind), ("&", "bits", range(2 ** width))):
        parts = word.split(part)
        if len(parts) == 2 and plain_numbers(parts):
            one, other = plain_numbers(parts)
            if one in there and other in there and (name == "bits" or one <= other):
                return (name, one, other)
    return None


def plain_case(width, sign, line):
    """The items of a case's row, or None."""
    words = plain_words(line)
    if not words or words[0] != "case":
        return None
    items = [plain_item(width, sign, word) for word in words[1:]]
    return None if None in items else items


def garbled(chance, text, letters):
    """A text with a few letters changed, taken out or put in; now and then none."""
    for _ in range(chance.randrange(4)):
        at = chance.randrange(len(text) + 1)
        deed = chance.randrange(4)
        if deed == 0:
            text = text[:at] + chance.choice(letters) + text[at:]
        elif deed == 1:
            text = text[:at] + text[at + 1:]
        elif deed == 2:
            text = text[:at] + chance.choice(letters) + text[at + 1:]
        else:
            word = chance.choice(text.split()) if text.split() else ""
            text = text[:at] + word + text[at:]
    return text
