"""What a call answers where it can't go on: one error class for each number."""


class Refusal(Exception):
    """The base of them all; number is what the call answers."""

    def __init__(self, number):
        self.number = number


class OutOfRange(Refusal):
    """A size or something else that is handed in is not as the document tells it."""

    def __init__(self):
        Refusal.__init__(self, -8)


class NotFinite(Refusal):
    """A double that is handed in is not finite, or a step's result would not be."""

    def __init__(self):
        Refusal.__init__(self, -1)


class NoPivot(Refusal):
    """A column has nothing but zeros to go by."""

    def __init__(self):
        Refusal.__init__(self, -2)
