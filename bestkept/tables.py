"""Tables: read from a text, and written in the one form."""

from bestkept.faults import Fault
from bestkept.tokens import tokens_of

MOST_BYTES = 4096
MOST_COLUMNS = 4
MOST_ROWS = 16
MOST_QUESTIONS = 8
GREATEST_VALUE = 9
GREATEST_AMOUNT = 1000
MOST_TIMES = 99


class Table:
    """Columns' names; rows as (values, amount); questions as (grouping, times)."""

    def __init__(self, columns):
        self.columns = columns
        self.rows = []
        self.questions = []


class Reader:
    """Tokens, taken from left to right."""

    def __init__(self, tokens):
        self.tokens = tokens
        self.at = 0

    def sees(self, kind):
        """Whether the token that comes is of this kind."""
        return self.tokens[self.at].kind == kind

    def take(self, kind):
        """The token that comes, which has to be of this kind."""
        token = self.tokens[self.at]
        if token.kind != kind:
            raise Fault(3, token.place)
        self.at += 1
        return token


def read_table(text):
    """The table that the text tells, or a Fault."""
    if len(text) > MOST_BYTES:
        raise Fault(1, MOST_BYTES)
    # All tokens are cut before the first is looked at: fault 2 comes ahead of
    # those of the tables, wherever in the text it lies.
    reader = Reader(tokens_of(text))
    table = Table(read_columns(reader))
    while not reader.sees("end"):
        if reader.sees("row"):
            read_row(reader, table)
        else:
            read_question(reader, table)
    return table


def read_columns(reader):
    """The columns' names."""
    reader.take("columns")
    names = [read_new_name(reader, [])]
    while reader.sees(","):
        reader.take(",")
        names.append(read_new_name(reader, names))
    reader.take(";")
    return names


def read_new_name(reader, names):
    """One more column's name, beside those told before."""
    token = reader.take("name")
    if len(names) == MOST_COLUMNS:
        raise Fault(4, token.place)
    if token.told in names:
        raise Fault(5, token.place)
    return token.told


def read_row(reader, table):
    """One more row, put into the table."""
    token = reader.take("row")
    if len(table.rows) == MOST_ROWS:
        raise Fault(4, token.place)
    values = [read_number(reader, 0, GREATEST_VALUE)]
    while len(values) < len(table.columns):
        reader.take(",")
        values.append(read_number(reader, 0, GREATEST_VALUE))
    reader.take(":")
    amount = read_amount(reader)
    reader.take(";")
    table.rows.append((tuple(values), amount))


def read_amount(reader):
    """What a row brings to the sum."""
    if reader.sees("-"):
        reader.take("-")
        return -read_number(reader, 0, GREATEST_AMOUNT)
    return read_number(reader, 0, GREATEST_AMOUNT)


def read_number(reader, least, greatest):
    """A number within these bounds."""
    token = reader.take("number")
    if token.told < least or token.told > greatest:
        raise Fault(7, token.place)
    return token.told


def read_question(reader, table):
    """One more question, put into the table."""
    token = reader.take("ask")
    if len(table.questions) == MOST_QUESTIONS:
        raise Fault(4, token.place)
    grouping = read_grouping(reader, table.columns)
    times = 1
    if reader.sees("times"):
        reader.take("times")
        times = read_number(reader, 1, MOST_TIMES)
    reader.take(";")
    table.questions.append((grouping, times))


def read_grouping(reader, columns):
    """The columns that a question names, as a number; none at all is 0."""
    if not reader.sees("name"):
        return 0
    grouping = read_column_bit(reader, columns, 0)
    while reader.sees(","):
        reader.take(",")
        grouping += read_column_bit(reader, columns, grouping)
    return grouping


def read_column_bit(reader, columns, grouping):
    """The bit of one more column, beside those of the grouping."""
    token = reader.take("name")
    if token.told not in columns:
        raise Fault(8, token.place)
    bit = 1 << columns.index(token.told)
    if grouping & bit != 0:
        raise Fault(6, token.place)
    return bit


def one_form(table):
    """The table's one form, as bytes."""
    lines = [columns_line(table)]
    lines.extend([row_line(row) for row in table.rows])
    lines.extend([question_line(table, question) for question in table.questions])
    return [ord(sign) for sign in "".join(lines)]


def columns_line(table):
    """The line that tells the columns."""
    names = ", ".join(table.columns)
    return f"columns {names} ;\n"


def row_line(row):
    """The line that tells a row."""
    values = ", ".join([str(value) for value in row[0]])
    amount = row[1]
    return f"row {values} : {amount} ;\n"


def question_line(table, question):
    """The line that tells a question."""
    grouping = question[0]
    times = question[1]
    parts = ["ask"]
    if grouping != 0:
        parts.append(", ".join(names_of(table.columns, grouping)))
    if times != 1:
        parts.append(f"times {times}")
    parts.append(";\n")
    return " ".join(parts)


def names_of(columns, grouping):
    """The names of a grouping's columns, in order of the columns' numbers."""
    return [name for place, name in enumerate(columns) if grouping >> place & 1 == 1]
