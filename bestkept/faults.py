"""What is told of a text that is no table."""


class Fault(Exception):
    """A fault's code, and the place in the text at which it is told."""

    def __init__(self, code, place):
        Exception.__init__(self, f"fault {code} at {place}")
        self.code = code
        self.place = place
