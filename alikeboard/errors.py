"""Refusals: what the program raises where it does not take what it is handed."""


class BoardError(ValueError):
    """Any refusal."""


class NoTerm(BoardError):
    """What stands where a term should stand is no term."""


class NoFact(BoardError):
    """What stands where a fact should stand is no fact."""


class BadText(BoardError):
    """A text is not one that this program writes."""


class Full(BoardError):
    """There is no room for one more."""


class NoMark(BoardError):
    """There is no such mark."""


class Clash(BoardError):
    """A fact can't stand together with the told ones; row tells places of such told facts."""

    def __init__(self, row):
        super().__init__("the fact can't stand together with the told ones")
        self.row = list(row)
