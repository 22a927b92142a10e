"""What the tests share: plain readings of the document, and choices to ask about.

Nothing here imports the program, so that a fault of it can't hide itself.
"""

import itertools

KINDS = [(width, sign) for width in range(1, 41) for sign in (0, 1)]
SMALL_KINDS = [(width, sign) for width, sign in KINDS if width <= 6]


def numbers_of_kind(width, sign):
    """All numbers of a kind, rising."""
    if sign:
        return range(-(2 ** (width - 1)), 2 ** (width - 1))
    return range(2 ** width)


def plain_number(pattern, width, sign):
    """The number of a kind with a pattern."""
    if sign and pattern >= 2 ** (width - 1):
        return pattern - 2 ** width
    return pattern


def plain_picks(width, item, number):
    """Whether an item picks a number, the bits one by one."""
    word, *parts = item
    if word == "is":
        return number == parts[0]
    if word == "from":
        return number in range(parts[0], parts[1] + 1)
    mask, value = parts
    pattern = number % 2 ** width
    for place in range(width):
        kept = pattern >> place & 1 if mask >> place & 1 else 0
        if kept != value >> place & 1:
            return False
    return True


def plain_labels(choice, number):
    """All cases that pick a number, rising."""
    width, _, cases = choice
    return [
        label
        for label, items in enumerate(cases)
        if any(plain_picks(width, item, number) for item in items)
    ]


def plain_picked(choice, number):
    """The label of a number."""
    return (plain_labels(choice, number) + [len(choice[2])])[0]


def plain_clash(choice, numbers):
    """The clash of a choice, by going over numbers, which rise."""
    for number in numbers:
        labels = plain_labels(choice, number)
        if len(labels) > 1:
            return (labels[0], labels[1], number)
    return None


def plain_dead(choice, numbers):
    """The dead cases of a choice, by going over numbers."""
    gone_to = {plain_picked(choice, number) for number in numbers}
    return [label for label in range(len(choice[2])) if label not in gone_to]


def bits_edges(width, sign, mask, value):
    """The first number of each stretch that bits pick, and the first one behind it."""
    if value & ~mask:
        return []
    if not mask:
        return [plain_number(2 ** (width - 1) if sign else 0, width, sign)]
    lowest = min(place for place in range(width) if mask >> place & 1)
    free = [2 ** place for place in range(lowest, width) if not mask >> place & 1]
    edges = []
    for some in itertools.product((0, 1), repeat=len(free)):
        pattern = value + sum(bit for bit, there in zip(free, some) if there)
        low = plain_number(pattern, width, sign)
        edges += [low, low + 2 ** lowest]
    return edges


def edges_of(choice):
    """Numbers such that each number is picked by just what picks the edge ahead of it.

    So these tell of a wide kind what going over all its numbers would.
    """
    width, sign, cases = choice
    kind = numbers_of_kind(width, sign)
    edges = [kind[0]]
    for word, *parts in itertools.chain(*cases):
        if word == "bits":
            edges += bits_edges(width, sign, *parts)
        else:
            edges += [parts[0], parts[-1] + 1]
    return sorted({edge for edge in edges if edge in kind})


def all_items(width, sign):
    """Each item that there is for a small kind."""
    kind = numbers_of_kind(width, sign)
    pairs = itertools.combinations_with_replacement(kind, 2)
    patterns = range(2 ** width)
    return (
        [("is", number) for number in kind]
        + [("from", low, high) for low, high in pairs]
        + [("bits", mask, value) for mask in patterns for value in patterns]
    )


def some_bits(chance, width):
    """A bits item with at most 256 stretches; now and then it picks none."""
    lowest = chance.randrange(width)
    above = list(range(lowest + 1, width))
    free = chance.sample(above, min(len(above), chance.randrange(9)))
    mask = sum(2 ** place for place in range(lowest, width) if place not in free)
    value = chance.randrange(2 ** width)
    if chance.randrange(8):
        value &= mask
    if not chance.randrange(8):
        mask = value = 0
    return ("bits", mask, value)


def some_item(chance, width, sign, near):
    """An item of any form; numbers lie at the ends of the kind, near others, or anywhere."""
    kind = numbers_of_kind(width, sign)

    def some_number():
        number = chance.choice([kind[0], kind[-1], chance.choice(kind)] + near)
        return min(max(number + chance.randrange(-1, 2), kind[0]), kind[-1])

    form = chance.randrange(3)
    if form == 0:
        return ("is", some_number())
    if form == 1:
        return ("from", *sorted([some_number(), some_number()]))
    return some_bits(chance, width)


def some_choice(chance, width, sign, most_cases, most_items):
    """A choice whose later items often touch, or say again, earlier ones."""
    cases = []
    made = []
    for _ in range(chance.randrange(most_cases + 1)):
        items = []
        for _ in range(chance.randrange(most_items + 1)):
            near = edges_of((width, sign, [chance.sample(made, min(2, len(made)))]))
            item = some_item(chance, width, sign, near)
            if made and not chance.randrange(6):
                item = chance.choice(made)
            made.append(item)
            items.append(item)
        cases.append(items)
    return (width, sign, cases)
