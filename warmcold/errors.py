"""The refusals of the program."""


class SeekError(ValueError):
    """Any refusal."""


class NoLength(SeekError):
    """What was handed in is no length of a path."""


class NoPlace(SeekError):
    """What was handed in is no place of the path."""


class NoStands(SeekError):
    """What was handed in is no list of stands."""


class NoAnswers(SeekError):
    """What was handed in is no list of answers to the stands."""


class NoStretch(SeekError):
    """What was handed in is no stretch of the path."""


class NoAnswer(SeekError):
    """What was handed in is no word of an answer."""


class NotNow(SeekError):
    """It is not the time for this."""


class Never(SeekError):
    """The thing could lie nowhere then."""


class NothingLeft(SeekError):
    """There is nothing to take back."""


class TooLong(SeekError):
    """The path has more places than this is told of."""

    def __init__(self, most):
        super().__init__(f"the path has more than {most} places")
        self.most = most
