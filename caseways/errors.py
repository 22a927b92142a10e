"""The refusals: each stands straight under CaseError, none under another one."""


class CaseError(ValueError):
    """Any refusal of this package."""


class Twice(CaseError):
    """A number that two cases pick."""

    def __init__(self, one, other, number):
        CaseError.__init__(self, f"cases {one} and {other} both pick {number}")
        self.one = one
        self.other = other
        self.number = number


class Beyond(CaseError):
    """A row that is read beyond its ends."""

    def __init__(self, row):
        CaseError.__init__(self, f"row {row} is read beyond its ends")
        self.row = row


class TooNarrow(CaseError):
    """No plan has so little room."""


class NoStretch(CaseError):
    """A number that no stretch has, told by its place in a list."""

    def __init__(self, place):
        CaseError.__init__(self, f"no stretch has the number at place {place}")
        self.place = place


class BadText(CaseError):
    """A row of a text that is not written as it must be."""

    def __init__(self, row):
        CaseError.__init__(self, f"row {row} is badly written")
        self.row = row
