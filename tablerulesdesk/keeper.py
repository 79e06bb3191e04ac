"""Carries out calls on one object that holds a schema and its tables."""

from tablerulesdesk.carrying import Refused, behind_checked, behind_unchecked
from tablerulesdesk.reader import Fault, read_schema
from tablerulesdesk.removing import references_to, removal_of, rows_clearing
from tablerulesdesk.rows import is_id, no_rows, rows_of, told_rows
from tablerulesdesk.rules import all_broken
from tablerulesdesk.schema import is_table
from tablerulesdesk.statements import DELETE, INSERT, UPDATE, Statement
from tablerulesdesk.statements import given_by_pairs, given_by_values, statements_of
from tablerulesdesk.writer import written_schema

BYTE_MOST = 255
TEXT_MOST = 4096

NO_BYTE = -1
TEXT_TOO_LONG = -2
NO_SUCH_TABLE = -3
NOT_OF_THE_FORM = -4
NO_ID = -5
NOT_AS_TOLD = -7
NO_MODE = -8

NO_SUCH_ROW = 1
REMOVAL_REFUSED = 2

EACH_CHECKED = 0
RULES_AT_END = 1

LOAD = 0
WRITTEN = 1
FILL = 2
BROKEN = 3
TABLES = 4
INSERT_ROW = 5
UPDATE_ROW = 6
DELETE_ROW = 7
WOULD = 8
REFERS = 9
MANY = 10

# By a call's number: how many whole numbers it has, and which calls have a list behind them.
PLAIN_NUMBERS = {0: 0, 1: 0, 2: 0, 3: 0, 4: 0, 5: 2, 6: 2, 7: 2, 8: 2, 9: 2, 10: 1, 11: 2}
WITH_LIST = (0, 2, 3, 5, 6, 10)


class Desk:
    """The object: a schema and its tables' rows. Each answer is a list of numbers.

    The calls on one row are made behind a look at refusal: their table is there, their id may be.
    """

    def __init__(self):
        self.schema = []
        self.rows = []

    def load(self, numbers):
        """Hold the schema that the text tells, its tables without rows; or tell its first fault."""
        if not all([0 <= number <= BYTE_MOST for number in numbers]):
            return [NO_BYTE]
        if len(numbers) > TEXT_MOST:
            return [TEXT_TOO_LONG]
        try:
            schema = read_schema(numbers)
        except Fault as fault:
            return [1, fault.kind, fault.place]
        self.schema = schema
        self.rows = no_rows(schema)
        return [0, len(schema), sum([len(table.columns) for table in schema])]

    def written(self):
        """Tell the schema's one form."""
        return [0] + written_schema(self.schema)

    def fill(self, told):
        """Hold these rows if they break no rule; or tell the first row that breaks one."""
        rows = rows_of(self.schema, told)
        if rows is None:
            return [NOT_OF_THE_FORM]
        faults = all_broken(self.schema, rows)
        if len(faults) > 0:
            return [1] + faults[0]
        self.rows = rows
        return [0]

    def broken(self, told):
        """Tell each of these rows that would break a rule, with the first one."""
        rows = rows_of(self.schema, told)
        if rows is None:
            return [NOT_OF_THE_FORM]
        return [0] + counted(all_broken(self.schema, rows))

    def tables(self):
        """Tell all tables' rows."""
        return [0] + told_rows(self.rows)

    def refusal(self, table, row_id):
        """Give the refusal of a table or an id that there can't be, or 0."""
        if not is_table(self.schema, table):
            return NO_SUCH_TABLE
        if not is_id(row_id):
            return NO_ID
        return 0

    def insert(self, table, row_id, told):
        """Put a row with this id and these values into the table; or tell why not."""
        given = given_by_values(self.schema[table].columns, told)
        if given is None:
            return [NOT_AS_TOLD]
        return self.carry_out(Statement(INSERT, table, row_id, given))

    def update(self, table, row_id, pairs):
        """Give some columns of the row other values; or tell why not."""
        given = given_by_pairs(self.schema[table].columns, pairs)
        if given is None:
            return [NOT_AS_TOLD]
        return self.carry_out(Statement(UPDATE, table, row_id, given))

    def delete(self, table, row_id):
        """Remove the row with all that go with it; or tell why not."""
        return self.carry_out(Statement(DELETE, table, row_id, {}))

    def carry_out(self, statement):
        """Hold the rows behind the statement; or tell why it's refused."""
        try:
            self.rows = behind_checked(self.schema, self.rows, statement)
        except Refused as refused:
            return [1] + refused.told
        return [0]

    def would(self, table, row_id):
        """Tell ahead what comes of removing the row."""
        if row_id not in self.rows[table]:
            return [NO_SUCH_ROW]
        removal = removal_of(self.schema, self.rows, table, row_id)
        if len(removal.refusing) > 0:
            return [REMOVAL_REFUSED] + list(removal.refusing[0])
        return [0] + counted(removal.going) + counted(rows_clearing(removal))

    def refers(self, table, row_id):
        """Tell each reference to this id of this table."""
        return [0] + counted(references_to(self.schema, self.rows, table, row_id))

    def row(self, table, row_id):
        """Tell the row's values."""
        if row_id not in self.rows[table]:
            return [NO_SUCH_ROW]
        return [0] + self.rows[table][row_id]

    def many(self, mode, told):
        """Carry out all these statements, each checked or with the rules at the end; or tell why none."""
        if mode != EACH_CHECKED and mode != RULES_AT_END:
            return [NO_MODE]
        statements = statements_of(self.schema, told)
        if statements is None:
            return [NOT_AS_TOLD]
        rows = self.rows
        for number, statement in enumerate(statements):
            try:
                if mode == EACH_CHECKED:
                    rows = behind_checked(self.schema, rows, statement)
                else:
                    rows = behind_unchecked(rows, statement)
            except Refused as refused:
                return [1, number] + refused.told
        # Where each statement was checked, no rule is broken now.
        faults = all_broken(self.schema, rows)
        if len(faults) > 0:
            return [1, len(statements)] + faults[0]
        self.rows = rows
        return [0, len(statements)]


def counted(parts):
    """Give how many parts there are, and behind it the numbers of each."""
    told = [len(parts)]
    for part in parts:
        told.extend(part)
    return told


def answers(calls):
    """Carry out the calls, one behind another, on a new object.

    Gives back, for each call, how many numbers are answered, and these.
    """
    desk = Desk()
    told = []
    place = 0
    while place < len(calls):
        call = calls[place]
        start = place + 1
        place = start + PLAIN_NUMBERS[call]
        plain = calls[start:place]
        numbers = []
        if call in WITH_LIST:
            start = place + 1
            place = start + calls[place]
            numbers = calls[start:place]
        answer = answer_of(desk, call, plain, numbers)
        told.append(len(answer))
        told.extend(answer)
    return told


def answer_of(desk, call, plain, numbers):
    """Give what one call with its whole numbers and its list answers."""
    if call == LOAD:
        return desk.load(numbers)
    if call == WRITTEN:
        return desk.written()
    if call == FILL:
        return desk.fill(numbers)
    if call == BROKEN:
        return desk.broken(numbers)
    if call == TABLES:
        return desk.tables()
    if call == MANY:
        return desk.many(plain[0], numbers)
    refusal = desk.refusal(plain[0], plain[1])
    if refusal != 0:
        return [refusal]
    return answer_of_row(desk, call, plain[0], plain[1], numbers)


def answer_of_row(desk, call, table, row_id, numbers):
    """Give what one call on a row with this id of this table answers."""
    if call == INSERT_ROW:
        return desk.insert(table, row_id, numbers)
    if call == UPDATE_ROW:
        return desk.update(table, row_id, numbers)
    if call == DELETE_ROW:
        return desk.delete(table, row_id)
    if call == WOULD:
        return desk.would(table, row_id)
    if call == REFERS:
        return desk.refers(table, row_id)
    # The one call left: a number that's no call has been stopped where its form is looked up.
    return desk.row(table, row_id)
