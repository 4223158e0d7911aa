"""A list of measures and items, read from a text."""

from bestwishes.faults import Fault, NOT_ALLOWED, SAME_NAME, TOO_GREAT, TOO_LONG, TOO_MANY
from bestwishes.tokens import END, NAME, NUMBER, split_tokens

MOST_BYTES = 4096
MOST_MEASURES = 4
MOST_ITEMS = 16
GREATEST_VALUE = 1000


class MeasuredList:
    """For each measure 1 (up) or -1 (down), and for each item a row of its values.

    Names are not held: no call asks for them.
    """

    def __init__(self, ways, rows):
        self.ways = ways
        self.rows = rows


class Reader:
    """Takes tokens one behind another, each only where its kind is allowed."""

    def __init__(self, tokens):
        self.tokens = tokens
        self.taken = 0

    def sees(self, kind):
        return self.tokens[self.taken].kind == kind

    def take(self, kinds):
        """The token that stands here, if it is of one of the kinds that are allowed."""
        token = self.tokens[self.taken]
        if token.kind not in kinds:
            raise Fault(NOT_ALLOWED, token.place)
        self.taken += 1
        return token


def read_list(text):
    """The list that a text tells; the Fault that is to be told, if it is not right."""
    if len(text) > MOST_BYTES:
        raise Fault(TOO_LONG, MOST_BYTES)
    # All tokens are parted first: a place without a token comes before each fault of order.
    reader = Reader(split_tokens(text))
    ways = read_measures(reader)
    rows = read_rows(reader, len(ways))
    return MeasuredList(ways, rows)


def read_measures(reader):
    reader.take(("measures",))
    names = []
    ways = []
    more = True
    while more:
        name = reader.take((NAME,))
        refuse_too_many(names, MOST_MEASURES, name)
        add_name(names, name)
        way = reader.take(("up", "down"))
        ways.append(1 if way.kind == "up" else -1)
        more = reader.take((",", ";")).kind == ","
    return ways


def read_rows(reader, width):
    """The rows of all items, each with as many values as there are measures."""
    names = []
    rows = []
    while reader.sees("item"):
        refuse_too_many(names, MOST_ITEMS, reader.take(("item",)))
        add_name(names, reader.take((NAME,)))
        reader.take((":",))
        rows.append(read_row(reader, width))
    reader.take((END,))
    return rows


def read_row(reader, width):
    row = [read_value(reader)]
    while len(row) < width:
        reader.take((",",))
        row.append(read_value(reader))
    reader.take((";",))
    return row


def read_value(reader):
    token = reader.take(("-", NUMBER))
    sign = 1
    if token.kind == "-":
        sign = -1
        token = reader.take((NUMBER,))
    if token.value > GREATEST_VALUE:
        raise Fault(TOO_GREAT, token.place)
    return sign * token.value


def refuse_too_many(names, most, token):
    if len(names) == most:
        raise Fault(TOO_MANY, token.place)


def add_name(names, token):
    if token.value in names:
        raise Fault(SAME_NAME, token.place)
    names.append(token.value)
