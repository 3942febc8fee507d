"""The error of the program."""


class RippleError(ValueError):
    """Every error that the program raises; its field message is a string."""

    def __init__(self, message):
        ValueError.__init__(self, message)
        self.message = message
