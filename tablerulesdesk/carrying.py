"""Carries out statements on the tables' rows. Rows handed in stay as they are: others are given back."""

from tablerulesdesk.removing import behind_removal, removal_of
from tablerulesdesk.rows import ROWS_MOST, with_row, without_row
from tablerulesdesk.rules import first_broken
from tablerulesdesk.statements import DELETE, INSERT

ID_AMISS = 1
REFERRED_TO = 5
TABLE_FULL = 6


class Refused(Exception):
    """A statement that's refused. told holds why, the table, the id and the column."""

    def __init__(self, why, table, row_id, column):
        Exception.__init__(self, why, table, row_id, column)
        self.told = [why, table, row_id, column]


def check_id(rows, statement):
    """Raise Refused if the row is there and isn't to be, or isn't there and is to be."""
    is_there = statement.row_id in rows[statement.table]
    if is_there == (statement.kind == INSERT):
        raise Refused(ID_AMISS, statement.table, statement.row_id, 0)


def check_room(rows, statement):
    """Raise Refused if the statement is one row more in a full table."""
    if statement.kind == INSERT and len(rows[statement.table]) == ROWS_MOST:
        raise Refused(TABLE_FULL, statement.table, statement.row_id, 0)


def check_rules(schema, rows, table, row_id):
    """Raise Refused if the row breaks a rule among these rows."""
    broken = first_broken(schema, rows, table, row_id)
    if broken is not None:
        raise Refused(broken[0], table, row_id, broken[1])


def values_behind(rows, statement):
    """Give the values that the row has behind an insert or an update."""
    if statement.kind == INSERT:
        return list(statement.given.values())
    values = list(rows[statement.table][statement.row_id])
    for column in statement.given:
        values[column] = statement.given[column]
    return values


def behind_unchecked(rows, statement):
    """Give the rows behind the statement, carried out without rules; may raise Refused."""
    check_id(rows, statement)
    check_room(rows, statement)
    if statement.kind == DELETE:
        return without_row(rows, statement.table, statement.row_id)
    return with_row(rows, statement.table, statement.row_id, values_behind(rows, statement))


def behind_checked(schema, rows, statement):
    """Give the rows behind the statement, or raise Refused if it would break a rule."""
    if statement.kind == DELETE:
        check_id(rows, statement)
        return behind_delete(schema, rows, statement)
    changed = behind_unchecked(rows, statement)
    check_rules(schema, changed, statement.table, statement.row_id)
    return changed


def behind_delete(schema, rows, statement):
    """Give the rows without the one that's there and those that go with it; may raise Refused."""
    removal = removal_of(schema, rows, statement.table, statement.row_id)
    if len(removal.refusing) > 0:
        first = removal.refusing[0]
        raise Refused(REFERRED_TO, first[0], first[1], first[2])
    return behind_removal(rows, removal)
