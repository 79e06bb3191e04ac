"""Writes a schema in its one form."""

from tablerulesdesk.schema import VALUE_MOST


def written_schema(schema):
    """Give the bytes of the schema's one form."""
    lines = []
    for table in schema:
        lines.append("table " + table.name + " {\n")
        for column in table.columns:
            lines.append(column_line(schema, column))
        lines.append("}\n")
    return [ord(sign) for sign in "".join(lines)]


def column_line(schema, column):
    """Give the line of one column."""
    line = "  " + column.name + ": " + kind_text(schema, column)
    if column.unique:
        line += " unique"
    return line + ";\n"


def kind_text(schema, column):
    """Give what a column holds, as its line tells it."""
    if column.target is None:
        return number_text(column)
    text = "ref " + schema[column.target].name
    if column.allows_none:
        text += " none"
    if column.removal != "":
        text += " " + column.removal
    return text


def number_text(column):
    """Give what a column of numbers holds; the widest range is not written."""
    if column.low == -VALUE_MOST and column.high == VALUE_MOST:
        return "number"
    return "number from " + str(column.low) + " to " + str(column.high)
