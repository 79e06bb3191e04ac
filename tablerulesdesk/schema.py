"""What a schema is made of. A schema is a list of tables, told by their numbers in it."""

VALUE_MOST = 1000000
COLUMNS_MOST = 4


class Column:
    """A column of numbers from low to high or, if it has a target, of references.

    target is the number of the table to which it refers, None in a column of numbers;
    removal is "cascade", "clear", or "" where a removal is refused.
    """

    def __init__(self, name):
        self.name = name
        self.low = -VALUE_MOST
        self.high = VALUE_MOST
        self.target = None
        self.allows_none = False
        self.removal = ""
        self.unique = False


class Table:
    """A table: its name and its columns, in order."""

    def __init__(self, name, columns):
        self.name = name
        self.columns = columns


def is_table(schema, number):
    """Tell whether the schema has a table of this number."""
    return 0 <= number < len(schema)
