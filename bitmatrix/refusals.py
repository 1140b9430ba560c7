"""What a call answers where it can't go on: one error class for each number."""


class Refusal(Exception):
    """The base of them all; number is what the call answers."""

    def __init__(self, number):
        self.number = number


class OutOfRange(Refusal):
    """A size or something else that is handed in is not as the document tells it."""

    def __init__(self):
        Refusal.__init__(self, -8)


class NotFinite(Refusal):
    """A double that is handed in is not finite, or a step's result would not be."""

    def __init__(self):
        Refusal.__init__(self, -1)


class Degenerate(Refusal):
    """What a column is to be divided by is 0, or is to be a root and isn't above 0."""

    def __init__(self):
        Refusal.__init__(self, -2)
