"""The refusals of the package."""


class SomeError(ValueError):
    """Any refusal."""


class NoValue(SomeError):
    """An unknown has no value."""


class NotPlain(SomeError):
    """Some or all stands in a statement that has to be plain."""


class NoNote(SomeError):
    """A text is not the text of a statement."""
