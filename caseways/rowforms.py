"""Rows: a list of tuples, each a test of a number, a mask, a table or a pick."""

from caseways.numbers import is_number

MOST_WIDE = 64


def is_goal(thing, own, many):
    """Tell whether a thing is the number of one of many rows, behind a row's own."""
    return is_number(thing) and own < thing < many


def is_table(thing, own, many):
    """Tell whether a tuple that begins as a table is one."""
    if len(thing) != 3 or not is_number(thing[1]):
        return False
    goals = thing[2]
    if not isinstance(goals, tuple) or not goals:
        return False
    return all([is_goal(goal, own, many) for goal in goals])


def is_mask(wide, bits):
    """Tell whether two numbers may be how wide a mask is and its bits."""
    return 1 <= wide <= MOST_WIDE and 0 <= bits < (1 << wide)


def is_row(thing, own, many):
    """Tell whether a thing may stand at place own of many rows."""
    if not isinstance(thing, tuple) or not thing:
        return False
    word = thing[0]
    if word == "table":
        return is_table(thing, own, many)
    if not all([is_number(part) for part in thing[1:]]):
        return False
    if word == "pick":
        return len(thing) == 2 and thing[1] >= 0
    if not is_goal(thing[-1], own, many):
        return False
    if word in ("is", "below"):
        return len(thing) == 3
    if word == "within":
        return len(thing) == 4 and thing[1] <= thing[2]
    return word == "mask" and len(thing) == 5 and is_mask(thing[2], thing[3])


def is_rows(thing):
    """Tell whether a thing is a list of rows, the last one a pick."""
    if not isinstance(thing, list) or not thing:
        return False
    # No goal lies behind the last row, so it is a pick or no row at all.
    many = len(thing)
    return all([is_row(row, own, many) for own, row in enumerate(thing)])


def goals_of(row):
    """Tell the list of the goals of a row, as they stand."""
    if row[0] == "pick":
        return []
    if row[0] == "table":
        return list(row[2])
    return [row[-1]]


def ends_of(row):
    """Tell the first and the last number that a mask or a table may be read by, else None."""
    if row[0] == "mask":
        return (row[1], row[1] + row[2] - 1)
    if row[0] == "table":
        return (row[1], row[1] + len(row[2]) - 1)
    return None
