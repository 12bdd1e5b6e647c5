"""The errors that the program raises."""


class StandfastError(ValueError):
    """The base class of all errors of the program."""


class InvalidRatio(StandfastError):
    """A text is not the written form of a ratio."""


class InvalidFrame(StandfastError):
    """A text does not describe a frame."""


class FrameHasProblems(StandfastError):
    """A frame cannot be calculated with."""


class InvalidEdit(StandfastError):
    """A text is no edit of the frame."""


class InvalidPaper(StandfastError):
    """A text is no paper."""


class InvalidLoss(StandfastError):
    """Members cannot be lost like this."""


class InvalidCase(StandfastError):
    """A case cannot be used like this."""


class InvalidFactors(StandfastError):
    """A truth does not fit its structure."""


class InvalidShares(StandfastError):
    """Numbers are no shares of the loads of each group."""


class TrialEnded(StandfastError):
    """A trial that has ended cannot go on."""


class InvalidLists(StandfastError):
    """Lists do not fit the frame."""


class InvalidChoice(StandfastError):
    """Names are no choice of sections, one from each list."""


class InvalidTree(StandfastError):
    """A text is no tree."""


class NothingToUndo(StandfastError):
    """There is no edit to undo or to do again."""
