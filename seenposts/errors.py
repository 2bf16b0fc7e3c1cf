"""The errors that the package raises; each tells in `value` what was wrong."""


class PostError(ValueError):
    """Any error of the package."""

    def __init__(self, value):
        self.value = value


class InvalidSize(PostError):
    """The size is not one that the call takes."""


class InvalidPlace(PostError):
    """The tuple has another number of coordinates than the size."""


class DoublePlace(PostError):
    """The place was told twice."""


class InvalidMatrix(PostError):
    """The rows are no matrix that keeps the posts."""


class InvalidStep(PostError):
    """The coordinates of the step have a common divisor other than 1."""


class InvalidNumber(PostError):
    """The integer is not one that the call takes."""


class InvalidWord(PostError):
    """The word is not one that tells how a place stands."""


class Conflict(PostError):
    """The place is told as seen and as hidden."""


class Barred(PostError):
    """The prime bars the picture."""


class Taken(PostError):
    """The place is told already."""


class Wrong(PostError):
    """The place does not stand as the word says."""


class NothingToUndo(PostError):
    """There is no look that could be taken back."""


class Unreadable(PostError):
    """Nothing has this text."""
