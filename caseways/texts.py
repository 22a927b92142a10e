"""Texts of choices and of rows, written and read."""

from caseways.choices import is_item
from caseways.errors import BadText
from caseways.numbers import is_kind
from caseways.rowforms import is_row

FIGURES = "0123456789"
MOST_FIGURES = 20


def number_from(word):
    """Tell the number that a word writes, or None."""
    figures = word[1:] if word.startswith("-") else word
    if not 1 <= len(figures) <= MOST_FIGURES or not all([sign in FIGURES for sign in figures]):
        return None
    if figures[0] == "0" and word != "0":
        return None
    return int(word)


def numbers_from(words):
    """Tell the list of the numbers that words write, or None where one of them writes none."""
    numbers = [number_from(word) for word in words]
    return None if None in numbers else numbers


def item_text(item):
    """Tell how an item is written."""
    if item[0] == "is":
        return str(item[1])
    if item[0] == "from":
        return f"{item[1]}..{item[2]}"
    return f"{item[1]}&{item[2]}"


def choice_text(choice):
    """Tell the text of a choice."""
    width, sign, cases = choice
    rows = [f"choice {width} {sign}"]
    for items in cases:
        rows.append(" ".join(["case"] + [item_text(item) for item in items]))
    return "\n".join(rows)


def item_from(word):
    """Tell what a word writes as an item, whatever its numbers; None in them where they are none."""
    one, dots, other = word.partition("..")
    if dots:
        return ("from", number_from(one), number_from(other))
    one, sign, other = word.partition("&")
    if sign:
        return ("bits", number_from(one), number_from(other))
    return ("is", number_from(word))


def kind_from(row):
    """Tell the pair (width, sign) of a choice's first row, or None."""
    words = row.split(" ")
    numbers = numbers_from(words[1:])
    if words[0] != "choice" or numbers is None or len(numbers) != 2:
        return None
    width, sign = numbers
    return (width, sign) if is_kind(width, sign) else None


def case_from(width, sign, row):
    """Tell the items of a case's row, or None."""
    words = row.split(" ")
    items = [item_from(word) for word in words[1:]]
    if words[0] != "case" or not all([is_item(width, sign, item) for item in items]):
        return None
    return items


def choice_from(text):
    """Tell the choice that a text writes; refused with the first row that can't stand there."""
    rows = text.split("\n")
    kind = kind_from(rows[0])
    if kind is None:
        raise BadText(0)
    width, sign = kind
    cases = []
    for own, row in enumerate(rows[1:], start=1):
        items = case_from(width, sign, row)
        if items is None:
            raise BadText(own)
        cases.append(items)
    return (width, sign, cases)


def row_text(row):
    """Tell how a row is written."""
    parts = list(row)
    if row[0] == "table":
        parts = [row[0], row[1]] + list(row[2])
    return " ".join([str(part) for part in parts])


def rows_text(rows):
    """Tell the text of rows."""
    return "\n".join([row_text(row) for row in rows])


def row_from(text):
    """Tell what a text writes as a row, whatever its word and its numbers, or None."""
    words = text.split(" ")
    numbers = numbers_from(words[1:])
    if numbers is None:
        return None
    if words[0] == "table" and numbers:
        return ("table", numbers[0], tuple(numbers[1:]))
    return (words[0],) + tuple(numbers)


def rows_from(text):
    """Tell the rows that a text writes; refused with the first row that can't stand there."""
    written = text.split("\n")
    rows = []
    for own, part in enumerate(written):
        row = row_from(part)
        # No goal lies behind the last row, so it is a pick or can't stand there.
        if not is_row(row, own, len(written)):
            raise BadText(own)
        rows.append(row)
    return rows
