"""Carries out calls on one object that holds a schema and its tables."""

from tablerulesdesk.reader import Fault, read_schema
from tablerulesdesk.rows import ID_MOST, ROWS_MOST, are_values, no_rows, rows_of, told_rows, with_row
from tablerulesdesk.rules import all_broken, first_broken
from tablerulesdesk.writer import written_schema

BYTE_MOST = 255
TEXT_MOST = 4096

NO_BYTE = -1
TEXT_TOO_LONG = -2
NO_SUCH_TABLE = -3
NOT_OF_THE_FORM = -4
NO_ID = -5
NOT_THE_COLUMNS = -7

ID_THERE = 1
TABLE_FULL = 6

LOAD = 0
WRITTEN = 1
FILL = 2
BROKEN = 3
TABLES = 4

# By a call's number: how many whole numbers it has, and which calls have a list behind them.
PLAIN_NUMBERS = {0: 0, 1: 0, 2: 0, 3: 0, 4: 0, 5: 2}
WITH_LIST = (0, 2, 3, 5)


class Desk:
    """The object: a schema and its tables' rows. Each answer is a list of numbers."""

    def __init__(self):
        self.schema = []
        self.rows = []

    def load(self, numbers):
        """Hold the schema that the text tells, its tables without rows; or tell its first fault."""
        if not all([0 <= number <= BYTE_MOST for number in numbers]):
            return [NO_BYTE]
        if len(numbers) > TEXT_MOST:
            return [TEXT_TOO_LONG]
        try:
            schema = read_schema(numbers)
        except Fault as fault:
            return [1, fault.kind, fault.place]
        self.schema = schema
        self.rows = no_rows(schema)
        return [0, len(schema), sum([len(table.columns) for table in schema])]

    def written(self):
        """Tell the schema's one form."""
        return [0] + written_schema(self.schema)

    def fill(self, told):
        """Hold these rows if they break no rule; or tell the first row that breaks one."""
        rows = rows_of(self.schema, told)
        if rows is None:
            return [NOT_OF_THE_FORM]
        faults = all_broken(self.schema, rows)
        if len(faults) > 0:
            return [1] + faults[0]
        self.rows = rows
        return [0]

    def broken(self, told):
        """Tell each of these rows that would break a rule, with the first one."""
        rows = rows_of(self.schema, told)
        if rows is None:
            return [NOT_OF_THE_FORM]
        faults = all_broken(self.schema, rows)
        answer = [0, len(faults)]
        for fault in faults:
            answer.extend(fault)
        return answer

    def tables(self):
        """Tell all tables' rows."""
        return [0] + told_rows(self.rows)

    def refusal(self, table, row_id):
        """Give the refusal of a table or an id that there can't be, or 0."""
        if not 0 <= table < len(self.schema):
            return NO_SUCH_TABLE
        if not 1 <= row_id <= ID_MOST:
            return NO_ID
        return 0

    def insert(self, table, row_id, values):
        """Put a row with this id and these values into the table; or tell why not."""
        refusal = self.refusal(table, row_id)
        if refusal != 0:
            return [refusal]
        if len(values) != len(self.schema[table].columns) or not are_values(values):
            return [NOT_THE_COLUMNS]
        if row_id in self.rows[table]:
            return [1, ID_THERE, table, row_id, 0]
        if len(self.rows[table]) == ROWS_MOST:
            return [1, TABLE_FULL, table, row_id, 0]
        rows = with_row(self.rows, table, row_id, values)
        broken = first_broken(self.schema, rows, table, row_id)
        if broken is not None:
            return [1, broken[0], table, row_id, broken[1]]
        self.rows = rows
        return [0]


def answers(calls):
    """Carry out the calls, one behind another, on a new object.

    Gives back, for each call, how many numbers are answered, and these.
    """
    desk = Desk()
    told = []
    place = 0
    while place < len(calls):
        call = calls[place]
        start = place + 1
        place = start + PLAIN_NUMBERS[call]
        plain = calls[start:place]
        numbers = []
        if call in WITH_LIST:
            start = place + 1
            place = start + calls[place]
            numbers = calls[start:place]
        answer = answer_of(desk, call, plain, numbers)
        told.append(len(answer))
        told.extend(answer)
    return told


def answer_of(desk, call, plain, numbers):
    """Give what one call with its whole numbers and its list answers."""
    if call == LOAD:
        return desk.load(numbers)
    if call == WRITTEN:
        return desk.written()
    if call == FILL:
        return desk.fill(numbers)
    if call == BROKEN:
        return desk.broken(numbers)
    if call == TABLES:
        return desk.tables()
    # The one call left: a number that's no call has been stopped where its form is looked up.
    return desk.insert(plain[0], plain[1], numbers)
