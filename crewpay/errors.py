"""The refusals: each stands straight under WageError, so that all can be caught at once."""


class WageError(ValueError):
    """Any refusal."""


class NoArticles(WageError):
    """What should be articles is none."""


class NoPages(WageError):
    """What should be pages of the articles is none."""


class NoPage(WageError):
    """What should be a page of the articles is none."""


class NoRank(WageError):
    """The articles do not tell of this rank."""


class NoSum(WageError):
    """A number, or a bearer, that is asked with is not within its bounds."""


class NoMan(WageError):
    """No page tells of this man."""


class Faulty(WageError):
    """The man or the ship has faults: `faults` is the rising tuple of these."""

    def __init__(self, faults):
        WageError.__init__(self, "the pages of the man or of the ship have faults")
        self.faults = faults


class TooMuch(WageError):
    """The pence are more than the room: `most` is this room."""

    def __init__(self, most):
        WageError.__init__(self, "the pence are more than the room")
        self.most = most


class Twice(WageError):
    """The page is there already."""


class TooMany(WageError):
    """There would be more pages than a book can have."""


class NotThere(WageError):
    """The page that should be struck out is not there."""


class NothingLeft(WageError):
    """Nothing that was done is left to be taken back."""


class NoText(WageError):
    """What should be written as the document says is not."""


class NoRow(WageError):
    """What should be a row of the desk is none."""
