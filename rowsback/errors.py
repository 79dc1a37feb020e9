"""The errors of the package."""


class RowError(ValueError):
    """What all errors of the package are."""


class BadRow(RowError):
    """A value is no row; error tells why."""

    def __init__(self, error):
        self.error = error


class BadPoint(RowError):
    """What was given is no point of the row."""

    def __init__(self, given):
        self.given = given


class BadText(RowError):
    """A text is no text of a row; place is the number of the wrong text line."""

    def __init__(self, place):
        self.place = place


class TooWide(RowError):
    """Some polynomial has too many pairs."""


class TooLong(RowError):
    """What would come is beyond the bounds."""


class NotStraight(RowError):
    """The row is not straight."""


class NotRound(RowError):
    """The row has not as many ends as inputs."""


class NoStep(RowError):
    """There is no step with this number."""

    def __init__(self, number):
        self.number = number


class NoInput(RowError):
    """There is no such input."""

    def __init__(self, given):
        self.given = given


class NoEnd(RowError):
    """There is no such end."""

    def __init__(self, given):
        self.given = given


class NoName(RowError):
    """There is no such name."""

    def __init__(self, given):
        self.given = given


class BadMoves(RowError):
    """A value is no tuple of moves; error tells why."""

    def __init__(self, error):
        self.error = error


class BadPlan(RowError):
    """A value is no plan; error tells why."""

    def __init__(self, error):
        self.error = error


class TooGreat(RowError):
    """Something is above this limit."""

    def __init__(self, limit):
        self.limit = limit


class Unfit(RowError):
    """Things do not fit together."""


class Busy(RowError):
    """Something cannot be done just now."""


class Full(RowError):
    """There is no room for more."""


class NothingDone(RowError):
    """There is nothing that could be taken back."""


class NothingUndone(RowError):
    """There is nothing that could be done again."""


class NoVersion(RowError):
    """There is no such version."""

    def __init__(self, given):
        self.given = given


class Changed(RowError):
    """What the name stands for would change."""

    def __init__(self, name):
        self.name = name


class Rejected(RowError):
    """The edit with this index is refused."""

    def __init__(self, index):
        self.index = index


class BadBatch(RowError):
    """A value is no batch of edits."""
