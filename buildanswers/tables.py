"""Tables: how one is read from a text, and its one form."""

from buildanswers.faults import ASKED_TWICE, COLUMN_TWICE, NO_COLUMN, NOT_ALLOWED
from buildanswers.faults import OUT_OF_RANGE, TOO_LONG, TOO_MANY, TableFault
from buildanswers.tokens import END, NAME, NUMBER, as_signs, tokens_of

MOST_BYTES = 4096
MOST_COLUMNS = 4
MOST_ROWS = 16
MOST_QUESTIONS = 8
GREATEST_VALUE = 9
GREATEST_SUMMED = 1000
GREATEST_TIMES = 99


class Table:
    """Columns are names, rows are (values, summed), questions are (grouping, times)."""

    def __init__(self, columns):
        self.columns = columns
        self.rows = []
        self.questions = []


class TokenWalk:
    """The tokens of a text, taken one behind the other."""

    def __init__(self, tokens):
        self.tokens = tokens
        self.position = 0

    def take(self, kinds):
        token = self.tokens[self.position]
        if token.kind not in kinds:
            raise TableFault(NOT_ALLOWED, token.place)
        self.position += 1
        return token


def read_table(codes):
    """The table that the bytes tell; TableFault if they tell none."""
    if len(codes) > MOST_BYTES:
        raise TableFault(TOO_LONG, MOST_BYTES)
    walk = TokenWalk(tokens_of(as_signs(codes)))
    table = Table(read_columns(walk))
    token = walk.take(("row", "ask", END))
    while token.kind != END:
        if token.kind == "row":
            refuse_full(table.rows, MOST_ROWS, token)
            table.rows.append(read_row(walk, len(table.columns)))
        else:
            refuse_full(table.questions, MOST_QUESTIONS, token)
            table.questions.append(read_question(walk, table.columns))
        token = walk.take(("row", "ask", END))
    return table


def refuse_full(told, most, token):
    if len(told) == most:
        raise TableFault(TOO_MANY, token.place)


def read_columns(walk):
    walk.take(("columns",))
    columns = []
    closing = ","
    while closing == ",":
        token = walk.take((NAME,))
        refuse_full(columns, MOST_COLUMNS, token)
        if token.spelling in columns:
            raise TableFault(COLUMN_TWICE, token.place)
        columns.append(token.spelling)
        closing = walk.take((",", ";")).kind
    return columns


def read_row(walk, width):
    row_values = [read_number(walk, 0, GREATEST_VALUE)]
    while len(row_values) < width:
        walk.take((",",))
        row_values.append(read_number(walk, 0, GREATEST_VALUE))
    walk.take((":",))
    summed = read_summed(walk)
    walk.take((";",))
    return (row_values, summed)


def read_summed(walk):
    token = walk.take(("-", NUMBER))
    if token.kind == "-":
        return -read_number(walk, 0, GREATEST_SUMMED)
    return number_within(token, 0, GREATEST_SUMMED)


def read_number(walk, least, greatest):
    return number_within(walk.take((NUMBER,)), least, greatest)


def number_within(token, least, greatest):
    number = int(token.spelling)
    if number < least or number > greatest:
        raise TableFault(OUT_OF_RANGE, token.place)
    return number


def read_question(walk, columns):
    grouping = 0
    times = 1
    token = walk.take((NAME, "times", ";"))
    while token.kind == NAME:
        grouping += new_bit(token, columns, grouping)
        token = walk.take((",", "times", ";"))
        if token.kind == ",":
            token = walk.take((NAME,))
    if token.kind == "times":
        times = read_number(walk, 1, GREATEST_TIMES)
        walk.take((";",))
    return (grouping, times)


def new_bit(token, columns, grouping):
    """The bit of the column that the token names, which the grouping must not have yet."""
    if token.spelling not in columns:
        raise TableFault(NO_COLUMN, token.place)
    bit = 1 << columns.index(token.spelling)
    if grouping & bit:
        raise TableFault(ASKED_TWICE, token.place)
    return bit


def one_form(table):
    """The bytes of the one form."""
    lines = ["columns " + ", ".join(table.columns) + " ;\n"]
    for row_values, summed in table.rows:
        told = ", ".join([str(number) for number in row_values])
        lines.append(f"row {told} : {summed} ;\n")
    for grouping, times in table.questions:
        lines.append(question_line(table.columns, grouping, times))
    return [ord(sign) for sign in "".join(lines)]


def question_line(columns, grouping, times):
    parts = ["ask"]
    if grouping > 0:
        parts.append(", ".join(names_in(columns, grouping)))
    if times > 1:
        parts.append(f"times {times}")
    parts.append(";\n")
    return " ".join(parts)


def names_in(columns, grouping):
    return [name for place, name in enumerate(columns) if grouping >> place & 1]
