"""What can be wrong with a table's text."""

TOO_LONG = 1
NO_TOKEN = 2
NOT_ALLOWED = 3
TOO_MANY = 4
COLUMN_TWICE = 5
ASKED_TWICE = 6
OUT_OF_RANGE = 7
NO_COLUMN = 8


class TableFault(Exception):
    """A text is no table: the fault's code, and its place in the text."""

    def __init__(self, code, place):
        Exception.__init__(self)
        self.code = code
        self.place = place
