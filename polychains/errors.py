"""The errors that the program raises."""


class Fault(ValueError):
    """The base class of all errors of the program."""


class Malformed(Fault):
    """A value has not the form that is told."""


class Refused(Fault):
    """A value has the told form, but what is asked cannot be done with it."""

    def __init__(self, reason):
        Fault.__init__(self, f"refused: {reason}")
        self.reason = reason


class NoText(Fault):
    """A text that is read is not the written form of anything."""

    def __init__(self, at):
        Fault.__init__(self, f"no text at {at}")
        self.at = at
