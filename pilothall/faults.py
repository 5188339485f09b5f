"""What a text is refused with."""


class Fault(ValueError):
    """A text can't go on: the fault's kind, and the place of the token at which it is told."""

    def __init__(self, kind, place):
        self.kind = kind
        self.place = place
