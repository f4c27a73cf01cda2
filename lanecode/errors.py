"""The refusals that a reader of code can meet anywhere in what it reads."""


class NoBytes(Exception):
    """The bytes are no code's."""


class NoText(Exception):
    """The text is no code's."""
