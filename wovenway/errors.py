"""The refusals."""


class RowError(ValueError):
    """Any refusal."""


class NoRow(RowError):
    """What was handed in as a row, or as a ring, is none."""


class NoWorths(RowError):
    """What was handed in as the worths of a row are none."""


class NoNumber(RowError):
    """What was handed in as a number of cards is none."""


class NoHidden(RowError):
    """What was handed in as a hidden row is none."""


class NoCard(RowError):
    """What was to be laid is no card."""


class Taken(RowError):
    """The number that was to be laid lies there."""


class Full(RowError):
    """As many cards lie there as can."""


class NoneLeft(RowError):
    """There is no card to take away."""


class Barred(RowError):
    """The card that was to be laid is the last of four that would bar the row."""

    def __init__(self, four):
        super().__init__("four cards would bar the row")
        self.four = four
