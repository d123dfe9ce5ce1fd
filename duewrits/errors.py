"""The errors that the program raises."""


class WritError(ValueError):
    """The base class of all errors that the program raises."""


class BadText(WritError):
    """The words of a text are no expression; `at` tells from which word on."""

    def __init__(self, at):
        WritError.__init__(self, f"the words are no expression from word {at} on")
        self.at = at


class NotAllowed(WritError):
    """Something that the written limits and conditions do not allow."""


class UnknownName(WritError):
    """A name under which nothing stands."""
