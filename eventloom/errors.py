"""The refusals of a loom."""


class LoomError(ValueError):
    """Any refusal."""


class NoWord(LoomError):
    """What should be a word is none."""


class NoHandler(LoomError):
    """What should be a handler is none, or is one too many."""


class Twice(LoomError):
    """A name is told a second time."""


class Stranger(LoomError):
    """A name is told that no handler has."""


class NoCount(LoomError):
    """What should be a number of steps is none."""
