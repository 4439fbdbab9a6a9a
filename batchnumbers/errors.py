"""The errors of the package."""


class BatchError(ValueError):
    """What all errors of this package are."""


class InvalidMachine(BatchError):
    """What was passed makes no machine."""

    def __init__(self, at):
        self.at = at


class InvalidRow(BatchError):
    """A value is no row of commands."""

    def __init__(self, at):
        self.at = at


class InvalidChange(BatchError):
    """A value is no change."""

    def __init__(self, at):
        self.at = at


class InvalidQuestion(BatchError):
    """An argument is not what is asked for."""

    def __init__(self, at):
        self.at = at


class InvalidText(BatchError):
    """A text is not that of a machine."""

    def __init__(self, at):
        self.at = at


class Refused(BatchError):
    """An argument is of the right kind, but this cannot be done with it."""

    def __init__(self, at):
        self.at = at


class InvalidCommand(BatchError):
    """A command has none of the forms that are told."""
