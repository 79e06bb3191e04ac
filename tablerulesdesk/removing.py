"""Which references a row has, and what removing it takes along."""

from tablerulesdesk.rows import copied


class Removal:
    """What comes of removing a row, each list by tables, then ids, then columns.

    going holds the rows that go, each as a table and an id; clearing the references of rows that
    stay which would be none then, and refusing those by which it's refused, each as a table,
    an id and a column.
    """

    def __init__(self):
        self.going = []
        self.clearing = []
        self.refusing = []


def references_to(schema, rows, table, row_id):
    """Give each reference to this id of this table as a table, an id and a column."""
    references = []
    for other, table_rows in enumerate(rows):
        for other_id in sorted(table_rows):
            for place, column in enumerate(schema[other].columns):
                if column.target == table and table_rows[other_id][place] == row_id:
                    references.append((other, other_id, place))
    return references


def rows_going(schema, rows, table, row_id):
    """Give this row and all that go with it, each as a table and an id."""
    going = [(table, row_id)]
    looked_at = 0
    while looked_at < len(going):
        gone = going[looked_at]
        looked_at += 1
        for reference in references_to(schema, rows, gone[0], gone[1]):
            row = (reference[0], reference[1])
            if column_of(schema, reference).removal == "cascade" and row not in going:
                going.append(row)
    return sorted(going)


def column_of(schema, reference):
    """Give the column in which the reference stands."""
    return schema[reference[0]].columns[reference[2]]


def removal_of(schema, rows, table, row_id):
    """Give what comes of removing this row."""
    removal = Removal()
    removal.going = rows_going(schema, rows, table, row_id)
    for reference in references_from_staying(schema, rows, removal.going):
        # What stays refers by no cascade column to what goes: it would go, too.
        if column_of(schema, reference).removal == "clear":
            removal.clearing.append(reference)
        else:
            removal.refusing.append(reference)
    return removal


def references_from_staying(schema, rows, going):
    """Give the references to rows that go, but those of rows that go themselves."""
    references = []
    for row in going:
        for reference in references_to(schema, rows, row[0], row[1]):
            if (reference[0], reference[1]) not in going:
                references.append(reference)
    return sorted(references)


def rows_clearing(removal):
    """Give the rows in which the removal makes references none, each once, as a table and an id."""
    told = []
    for reference in removal.clearing:
        row = (reference[0], reference[1])
        if row not in told:
            told.append(row)
    return told


def behind_removal(rows, removal):
    """Give the tables' rows as they are when the removal is done."""
    changed = copied(rows)
    for row in removal.going:
        changed[row[0]].pop(row[1])
    for reference in removal.clearing:
        values = list(changed[reference[0]][reference[1]])
        values[reference[2]] = 0
        changed[reference[0]][reference[1]] = values
    return changed
