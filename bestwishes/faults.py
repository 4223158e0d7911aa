"""What is wrong with a text that is no right list."""

TOO_LONG = 1
NO_TOKEN = 2
NOT_ALLOWED = 3
TOO_MANY = 4
SAME_NAME = 5
TOO_GREAT = 7


class Fault(ValueError):
    """The one fault that is told of a text: its code, and its place there."""

    def __init__(self, code, place):
        ValueError.__init__(self, code, place)
        self.code = code
        self.place = place
