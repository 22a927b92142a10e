"""The machine: which rows a number does, and which label it ends with."""

from caseways.errors import Beyond
from caseways.rowforms import ends_of


def holds(row, number):
    """Tell whether a number goes to the goal of a row that is no table and no pick."""
    if row[0] == "is":
        return number == row[1]
    if row[0] == "within":
        return row[1] <= number <= row[2]
    if row[0] == "below":
        return number < row[1]
    return ((row[3] >> (number - row[1])) & 1) == 1


def row_behind(rows, at, number):
    """Tell the row that a number does next, behind one that is no pick."""
    row = rows[at]
    ends = ends_of(row)
    if ends is not None and not ends[0] <= number <= ends[1]:
        raise Beyond(at)
    if row[0] == "table":
        return row[2][number - row[1]]
    if holds(row, number):
        return row[-1]
    return at + 1


def run(rows, number):
    """Tell the pair (label, rows done) of a number; refused where it reads beyond a row's ends."""
    at = 0
    done = [at]
    while rows[at][0] != "pick":
        at = row_behind(rows, at, number)
        done.append(at)
    return (rows[at][1], done)
