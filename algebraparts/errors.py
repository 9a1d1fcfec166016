"""The errors that the program raises."""


class Fault(ValueError):
    """The base class of all errors that the program raises."""


class Malformed(Fault):
    """A value has not the form that is asked for."""


class Refused(Fault):
    """A value has the right form, and is refused for a reason: a string of small letters."""

    def __init__(self, reason):
        super().__init__(f"refused: {reason}")
        self.reason = reason


class NoText(Fault):
    """A text is not the text of anything; `at` tells where that is seen."""

    def __init__(self, at):
        super().__init__(f"no text at {at}")
        self.at = at
