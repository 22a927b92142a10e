"""Kinds of numbers, (width, sign), and the patterns of numbers."""

MOST_WIDTH = 40


def is_number(thing):
    """Tell whether a thing is a whole number, and not True or False."""
    # Python counts True and False among its whole numbers, the document does not.
    return isinstance(thing, int) and not isinstance(thing, bool)


def is_kind(width, sign):
    """Tell whether two things are the width and the sign of a kind."""
    if not is_number(width) or not is_number(sign):
        return False
    return 1 <= width <= MOST_WIDTH and 0 <= sign <= 1


def least_of(width, sign):
    """Tell the least number of a kind."""
    if sign == 0:
        return 0
    return -(1 << (width - 1))


def most_of(width, sign):
    """Tell the greatest number of a kind."""
    if sign == 0:
        return (1 << width) - 1
    return (1 << (width - 1)) - 1


def pattern_of(number, width):
    """Tell what is left of any number by 2 ** width, from 0 on."""
    return number & ((1 << width) - 1)


def number_of(pattern, width, sign):
    """Tell the number of a kind that has a pattern."""
    if pattern > most_of(width, sign):
        return pattern - (1 << width)
    return pattern
