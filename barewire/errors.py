"""The refusals: each is a class of its own straight under WireError."""


class WireError(ValueError):
    """Any refusal."""


class NoWord(WireError):
    """A whole number that is no word of the form."""


class NoLevels(WireError):
    """A row of levels that is not as long as a word of the form."""


class NoSpeech(WireError):
    """Words that cannot be a speech."""


class NoLine(WireError):
    """Changes that are the line of no speech."""


class NoText(WireError):
    """A text that writes nothing of what was to be read."""


class NoOrder(WireError):
    """What is no order of a desk."""


class NoBeat(WireError):
    """Beats by which a desk cannot hear."""
