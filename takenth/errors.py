"""The refusals: what is told where something handed in cannot be taken."""


class TakeError(ValueError):
    """Any refusal."""


class NoRow(TakeError):
    """Not a row, or not one of the rows that are asked for."""


class NoNumber(TakeError):
    """Not a whole number within the bounds."""


class NoTaker(TakeError):
    """Not a taker."""


class NoSeen(TakeError):
    """Not something seen."""


class NoCounts(TakeError):
    """Not a count for each taker."""


class NoPlace(TakeError):
    """Not the place of a taker."""


class Unlike(TakeError):
    """Two rows that have not as many takers."""


class Full(TakeError):
    """No room for one more taker."""


class TooMany(TakeError):
    """A row of more takers than are asked for: most is how many there may be."""

    def __init__(self, most):
        super().__init__(f"more than {most} takers")
        self.most = most
