"""The rules that rows keep to, and which of them a row breaks first."""

OUT_OF_RANGE = 2
NO_SUCH_ROW = 3
NOT_UNIQUE = 4


def broken_by_value(column, value, rows):
    """Give the rule that a value breaks by itself, whatever its table's rows hold; 0 if none."""
    if column.target is None:
        return 0 if column.low <= value <= column.high else OUT_OF_RANGE
    if value == 0:
        return 0 if column.allows_none else NO_SUCH_ROW
    return 0 if value in rows[column.target] else NO_SUCH_ROW


def has_twin(table_rows, row_id, place):
    """Tell whether another row of the table has the same value in the column at this place."""
    value = table_rows[row_id][place]
    for other in table_rows:
        if other != row_id and table_rows[other][place] == value:
            return True
    return False


def is_none(column, value):
    """Tell whether the value is a reference to no row."""
    return column.target is not None and value == 0


def first_broken(schema, rows, table, row_id):
    """Give the first rule that a row breaks, and the column, as a list of two; None if none."""
    values = rows[table][row_id]
    for place, column in enumerate(schema[table].columns):
        rule = broken_by_value(column, values[place], rows)
        if rule != 0:
            return [rule, place]
        if column.unique and not is_none(column, values[place]) and has_twin(rows[table], row_id, place):
            return [NOT_UNIQUE, place]
    return None


def all_broken(schema, rows):
    """Give for each row that breaks a rule the first one, the table, the id and the column."""
    told = []
    for table, table_rows in enumerate(rows):
        for row_id in sorted(table_rows):
            broken = first_broken(schema, rows, table, row_id)
            if broken is not None:
                told.append([broken[0], table, row_id, broken[1]])
    return told
