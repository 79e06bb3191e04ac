"""Reads a schema's text, or finds its first fault."""

from tablerulesdesk.scanner import text_of, tokens_of
from tablerulesdesk.schema import COLUMNS_MOST, Column, Table

TABLES_MOST = 4
NO_NAMES = ("table", "number", "from", "to", "ref", "none", "cascade", "clear", "unique")

TOO_MANY = 5
NAME_TAKEN = 6
NO_SUCH_TARGET = 7
CANNOT_HOLD = 8

# The fault of a token that isn't wanted where it stands, by the token's kind.
UNWANTED = {"stray": 1, "misshapen": 2, "word": 3, "number": 3, "sign": 3, "end": 4}


class Fault(Exception):
    """The first fault of a text: its kind (1 to 8) and its place."""

    def __init__(self, kind, place):
        Exception.__init__(self, kind, place)
        self.kind = kind
        self.place = place


class Reader:
    """Goes through a text's tokens, from left to right.

    links holds, for each reference column read so far, the column and the token
    of the table's name: a name may be that of a later table, so it's looked up at the end.
    """

    def __init__(self, tokens):
        self.tokens = tokens
        self.at = 0
        self.links = []

    def token(self):
        """Give the token that's looked at."""
        return self.tokens[self.at]

    def step(self):
        """Give the token that's looked at, and go behind it."""
        token = self.tokens[self.at]
        self.at += 1
        return token

    def fail(self):
        """Raise the fault of the token that's looked at, which isn't wanted here."""
        token = self.token()
        raise Fault(UNWANTED[token.kind], token.place)

    def takes(self, text):
        """Go behind this word or sign if it stands here; tell whether it does."""
        if self.token().text != text:
            return False
        self.step()
        return True

    def take(self, text):
        """Go behind this word or sign, which is wanted here; give its token."""
        if self.token().text != text:
            self.fail()
        return self.step()

    def take_name(self):
        """Go behind a name, which is wanted here; give its token."""
        token = self.token()
        if token.kind != "word" or token.text in NO_NAMES:
            self.fail()
        return self.step()

    def take_new_name(self, earlier):
        """Go behind a name that none of the earlier tables or columns has; give its text."""
        token = self.take_name()
        if token.text in [thing.name for thing in earlier]:
            raise Fault(NAME_TAKEN, token.place)
        return token.text

    def take_number(self):
        """Go behind a number with or without a minus sign; give its value."""
        factor = -1 if self.takes("-") else 1
        if self.token().kind != "number":
            self.fail()
        return factor * int(self.step().text)


def read_schema(numbers):
    """Give the schema that the bytes tell; raises Fault with the first fault if they tell none."""
    reader = Reader(tokens_of(text_of(numbers)))
    tables = []
    while reader.token().kind != "end":
        tables.append(read_table(reader, tables))
    link_columns(reader.links, tables)
    return tables


def read_table(reader, earlier):
    """Read one table, behind the earlier ones."""
    word = reader.take("table")
    if len(earlier) == TABLES_MOST:
        raise Fault(TOO_MANY, word.place)
    name = reader.take_new_name(earlier)
    reader.take("{")
    columns = []
    while not reader.takes("}"):
        # Whatever stands where a 5th column would begin, its own fault is not looked at.
        if len(columns) == COLUMNS_MOST:
            raise Fault(TOO_MANY, reader.token().place)
        columns.append(read_column(reader, columns))
    return Table(name, columns)


def read_column(reader, earlier):
    """Read one column, behind the earlier ones of its table."""
    column = Column(reader.take_new_name(earlier))
    reader.take(":")
    if reader.takes("number"):
        read_range(reader, column)
    else:
        reader.take("ref")
        read_reference(reader, column)
    column.unique = reader.takes("unique")
    reader.take(";")
    return column


def read_range(reader, column):
    """Read what may stand behind the word number."""
    if not reader.takes("from"):
        return
    column.low = reader.take_number()
    reader.take("to")
    place = reader.token().place
    column.high = reader.take_number()
    if column.high < column.low:
        raise Fault(CANNOT_HOLD, place)


def read_reference(reader, column):
    """Read what stands behind the word ref."""
    reader.links.append((column, reader.take_name()))
    column.allows_none = reader.takes("none")
    word = reader.token()
    if reader.takes("cascade") or reader.takes("clear"):
        column.removal = word.text
    if column.removal == "clear" and not column.allows_none:
        raise Fault(CANNOT_HOLD, word.place)


def link_columns(links, tables):
    """Give each reference column the number of the table that its name tells."""
    names = [table.name for table in tables]
    for column, token in links:
        if token.text not in names:
            raise Fault(NO_SUCH_TARGET, token.place)
        column.target = names.index(token.text)
