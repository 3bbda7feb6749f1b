"""The refusals of the program."""


class WaveError(ValueError):
    """Any refusal."""


class NoStep(WaveError):
    """A least step below 1."""


class NoPlace(WaveError):
    """What is no place, or are no places, of the row."""


class NoWeights(WaveError):
    """What are no weights of the row."""


class NoNumber(WaveError):
    """A number outside of what may be asked."""


class NoText(WaveError):
    """A text that can't be read."""


class NoForm(WaveError):
    """A row for the desk that has no form."""


class NoneYet(WaveError):
    """A row for the desk ahead of any step."""
