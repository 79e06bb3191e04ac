"""The tables' rows: a list with one dict for each table, from a row's id to its values."""

from tablerulesdesk.schema import VALUE_MOST

ROWS_MOST = 8
ID_MOST = 99


def is_id(number):
    """Tell whether a row may have this id."""
    return 1 <= number <= ID_MOST


def are_values(numbers):
    """Tell whether each number is one that a row may hold."""
    return all([-VALUE_MOST <= number <= VALUE_MOST for number in numbers])


def no_rows(schema):
    """Give the rows of tables that have none."""
    return [{} for table in schema]


def told_rows(rows):
    """Give all tables' rows as a list of numbers."""
    told = []
    for table_rows in rows:
        told.append(len(table_rows))
        for row_id in sorted(table_rows):
            told.append(row_id)
            told.extend(table_rows[row_id])
    return told


def rows_of(schema, told):
    """Give the tables' rows that the list tells, or None if it isn't of the form."""
    rows = []
    place = 0
    for table in schema:
        if place >= len(told) or not 0 <= told[place] <= ROWS_MOST:
            return None
        width = 1 + len(table.columns)
        start = place + 1
        place = start + told[place] * width
        # What the list is too short for is found behind the last table.
        table_rows = rows_of_table(told[start:place], width)
        if table_rows is None:
            return None
        rows.append(table_rows)
    if place != len(told):
        return None
    return rows


def rows_of_table(told, width):
    """Give one table's rows, each told by width numbers, or None if they aren't of the form."""
    table_rows = {}
    earlier = 0
    for start in range(0, len(told), width):
        row_id = told[start]
        values = told[start + 1:start + width]
        if not earlier < row_id <= ID_MOST or not are_values(values):
            return None
        table_rows[row_id] = values
        earlier = row_id
    return table_rows


def copied(rows):
    """Give the tables' rows once more, so that rows can be put in and taken out here alone."""
    return [dict(table_rows) for table_rows in rows]


def with_row(rows, table, row_id, values):
    """Give the tables' rows with this row, in the place of an earlier one of its id."""
    changed = copied(rows)
    changed[table][row_id] = list(values)
    return changed


def without_row(rows, table, row_id):
    """Give the tables' rows without this one."""
    changed = copied(rows)
    changed[table].pop(row_id)
    return changed
