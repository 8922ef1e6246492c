"""The fault that a script can have."""


class Fault(Exception):
    """A fault: its code, and the offset of the byte at which it is told."""

    def __init__(self, code, place):
        Exception.__init__(self, f"fault {code} at {place}")
        self.code = code
        self.place = place
