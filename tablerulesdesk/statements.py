"""Statements, and the lists that tell them."""

from tablerulesdesk.rows import are_values, is_id
from tablerulesdesk.schema import COLUMNS_MOST, is_table

STATEMENTS_MOST = 30

INSERT = 0
UPDATE = 1
DELETE = 2

# By a statement's kind: how many numbers it has ahead of what it gives to columns.
NUMBERS_AHEAD = {0: 3, 1: 4, 2: 3}


class Statement:
    """An insert, an update or a delete of one row, as its kind tells.

    given is a dict from columns to values: of all columns for an insert, of those that
    get another value for an update, of none for a delete.
    """

    def __init__(self, kind, table, row_id, given):
        self.kind = kind
        self.table = table
        self.row_id = row_id
        self.given = given


def given_by_values(columns, told):
    """Give the values of all columns that the list tells, or None if it isn't of that form."""
    if len(told) != len(columns) or not are_values(told):
        return None
    return dict(enumerate(told))


def given_by_pairs(columns, told):
    """Give the values of some columns that the list of pairs tells, or None if it isn't of that form."""
    if len(told) % 2 != 0:
        return None
    given = {}
    for start in range(0, len(told), 2):
        column = told[start]
        if not 0 <= column < len(columns) or column in given:
            return None
        given[column] = told[start + 1]
    if not are_values(list(given.values())):
        return None
    return given


def given_by_count(columns, told):
    """Give the values that a count and as many pairs behind it tell, or None if they aren't there."""
    count = told[0]
    if not 0 <= count <= COLUMNS_MOST or len(told) <= 2 * count:
        return None
    return given_by_pairs(columns, told[1:1 + 2 * count])


def statements_of(schema, told):
    """Give the statements that the list tells, or None if it isn't of the form."""
    statements = []
    place = 0
    while place < len(told):
        statement = statement_at(schema, told, place)
        if statement is None or len(statements) == STATEMENTS_MOST:
            return None
        statements.append(statement)
        place += length_of(statement)
    return statements


def statement_at(schema, told, place):
    """Give the statement that begins at this place, or None if none of the form does."""
    kind = told[place]
    if kind not in NUMBERS_AHEAD or place + NUMBERS_AHEAD[kind] > len(told):
        return None
    table = told[place + 1]
    row_id = told[place + 2]
    if not is_table(schema, table) or not is_id(row_id):
        return None
    columns = schema[table].columns
    behind = place + 3
    given = {}
    if kind == INSERT:
        given = given_by_values(columns, told[behind:behind + len(columns)])
    if kind == UPDATE:
        given = given_by_count(columns, told[behind:])
    if given is None:
        return None
    return Statement(kind, table, row_id, given)


def length_of(statement):
    """Give how many numbers of a list tell the statement."""
    if statement.kind == UPDATE:
        return NUMBERS_AHEAD[UPDATE] + 2 * len(statement.given)
    return NUMBERS_AHEAD[statement.kind] + len(statement.given)
