"""What is not right with bytes that tell no script."""

TOO_LONG = 1
NO_TOKEN = 2
NOT_ALLOWED = 3
TOO_MANY = 4
OUT_OF_BOUNDS = 7


class Fault(ValueError):
    """A fault's code, and its place: the offset of a byte."""

    def __init__(self, code, place):
        self.code = code
        self.place = place
