"""The errors of the package."""


class TrellisError(ValueError):
    """The base class of all errors of the package."""


class BadGraph(TrellisError):
    """Something is no graph, or would be none."""


class BadEdit(TrellisError):
    """An edit cannot be made in a graph."""


class BadText(TrellisError):
    """A text is not of the form that was asked for."""


class BadQuestion(TrellisError):
    """Something is no question for a graph."""


class NoNumber(TrellisError):
    """A graph has no number of a kind."""
