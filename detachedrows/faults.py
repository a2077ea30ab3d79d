"""What is wrong with a text."""


class Fault(Exception):
    """A text is not right: the fault's code, and the place that is told with it."""

    def __init__(self, code, place):
        self.code = code
        self.place = place
