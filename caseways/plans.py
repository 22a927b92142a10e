"""Plans: which tests part the stretches of a row, and the rows made of them.

A plan's steps are its tests and picks, each with the numbers of the stretches
that are left there. Plans may be as deep as there are stretches, so they are
gone through with a list of what waits, not by functions that call themselves.
"""

from caseways.numbers import is_number

MOST_IN_MASK = 64
MOST_IN_TABLE = 200


def numbers_across(stretches, left):
    """Tell how many numbers lie from the first stretch left to the last, those gone between too."""
    return stretches[left[-1]][1] - stretches[left[0]][0] + 1


def labels_left(stretches, left):
    """Tell the labels of the stretches left, in their order."""
    return [stretches[k][2] for k in left]


def parts_some(stretches, left, label):
    """Tell whether some stretches left have a label, and not all."""
    return 0 < labels_left(stretches, left).count(label) < len(left)


def is_step(stretches, left, thing):
    """Tell whether a thing may be the first step of a plan, whatever plans follow in it."""
    if not isinstance(thing, tuple) or not thing:
        return False
    word = thing[0]
    if word == "table":
        return len(thing) == 1 and numbers_across(stretches, left) <= MOST_IN_TABLE
    if len(thing) < 2 or not is_number(thing[1]):
        return False
    which = thing[1]
    if word == "pick":
        return len(thing) == 2 and labels_left(stretches, left).count(which) == len(left)
    if word == "below":
        return len(thing) == 4 and which in left[1:]
    if len(thing) != 3:
        return False
    if word == "mask":
        return parts_some(stretches, left, which) and numbers_across(stretches, left) <= MOST_IN_MASK
    if which not in left or len(left) == 1:
        return False
    if word == "is":
        return stretches[which][0] == stretches[which][1]
    return word == "within"


def plans_in(stretches, left, plan):
    """Tell the pairs (left, plan) that a plan's first step hands on to, what it falls through to last."""
    word = plan[0]
    if word == "below":
        ahead = [k for k in left if k < plan[1]]
        return [(ahead, plan[2]), (left[len(ahead):], plan[3])]
    if word == "mask":
        return [([k for k in left if stretches[k][2] != plan[1]], plan[2])]
    if word in ("is", "within"):
        return [([k for k in left if k != plan[1]], plan[2])]
    return []


def is_plan(stretches, thing):
    """Tell whether a thing is a plan for all stretches of a row."""
    waiting = [(list(range(len(stretches))), thing)]
    while waiting:
        left, part = waiting.pop()
        if not is_step(stretches, left, part):
            return False
        waiting.extend(plans_in(stretches, left, part))
    return True


def steps_of(stretches, plan):
    """Tell the pairs (left, plan) of all steps; behind a test stands what it falls through to."""
    steps = []
    waiting = [(list(range(len(stretches))), plan)]
    while waiting:
        left, part = waiting.pop()
        steps.append((left, part))
        waiting.extend(plans_in(stretches, left, part))
    return steps


def places_ahead(steps):
    """Tell, by the place of each step of below, the place of the step for those ahead."""
    told = {}
    open_tests = []
    for place, (left, part) in enumerate(steps):
        # A pick or a table ends the plan it stands in, so what stands behind
        # it is the plan for those ahead of the last below that still waits.
        if place > 0 and steps[place - 1][1][0] in ("pick", "table"):
            told[open_tests.pop()] = place
        if part[0] == "below":
            open_tests.append(place)
    return told


def labels_led_to(stretches, left, part):
    """Tell the labels whose picks the row of a step leads to by itself."""
    if part[0] == "mask":
        return [part[1]]
    if part[0] in ("is", "within"):
        return [stretches[part[1]][2]]
    if part[0] == "table":
        return labels_left(stretches, left)
    return []


def picks_behind(stretches, steps):
    """Tell, by its label, the place of each pick that stands behind the rows of all steps."""
    picks = {}
    for left, part in steps:
        for label in labels_led_to(stretches, left, part):
            if label not in picks:
                picks[label] = len(steps) + len(picks)
    return picks


def mask_row(stretches, left, label, goal):
    """Tell the row of a mask for the stretches left."""
    first = stretches[left[0]][0]
    bits = 0
    for k in left:
        low, high, own = stretches[k]
        if own == label:
            bits += ((1 << (high - low + 1)) - 1) << (low - first)
    return ("mask", first, numbers_across(stretches, left), bits, goal)


def table_row(stretches, left, picks):
    """Tell the row of a table for the stretches left."""
    goals = []
    # What is gone between was tested for, so there is a pick of its label, too.
    for low, high, label in stretches[left[0]:left[-1] + 1]:
        goals.extend([picks[label]] * (high - low + 1))
    return ("table", stretches[left[0]][0], tuple(goals))


def row_of(stretches, left, part, ahead, picks):
    """Tell the row of a step; ahead is the place of a below's step for those ahead."""
    word = part[0]
    if word == "pick":
        return ("pick", part[1])
    if word == "table":
        return table_row(stretches, left, picks)
    if word == "mask":
        return mask_row(stretches, left, part[1], picks[part[1]])
    low, high, label = stretches[part[1]]
    if word == "below":
        return ("below", low, ahead)
    if word == "is":
        return ("is", low, picks[label])
    return ("within", low, high, picks[label])


def rows_of(stretches, plan):
    """Tell rows by which each number does just the plan's tests on its way, and a pick."""
    steps = steps_of(stretches, plan)
    aheads = places_ahead(steps)
    picks = picks_behind(stretches, steps)
    rows = []
    for place, (left, part) in enumerate(steps):
        rows.append(row_of(stretches, left, part, aheads.get(place), picks))
    rows.extend([("pick", label) for label in picks])
    return rows
