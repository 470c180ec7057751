"""What can be wrong with a text that is loaded."""

TEXT_TOO_LONG = 1
NO_TOKEN = 2
NOT_ALLOWED = 3
ONE_TOO_MANY = 4
NAME_TAKEN = 5
NAME_UNKNOWN = 8
TOO_MANY_SIGNS = 9
TOO_DEEP = 10


class Fault(Exception):
    """The fault that is told of a text: its code and its place."""

    def __init__(self, code, place):
        Exception.__init__(self, code, place)
        self.code = code
        self.place = place
