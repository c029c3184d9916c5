"""What can be wrong with a script, and where."""

TOO_LONG = 1
NO_TOKEN = 2
NOT_ALLOWED = 3
TOO_MANY = 4
OUT_OF_BOUNDS = 7


class Fault(Exception):
    def __init__(self, code, place):
        self.code = code
        self.place = place
