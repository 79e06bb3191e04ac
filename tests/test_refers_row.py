"""refers and row: which references an id has, and a row's values."""

import unittest

from tests.calls import EXAMPLE, fill, insert, load, refers, row, run, tables, update

BIG = 10 ** 18
ROWS = (2, 1, 5, 0, 2, 5, 1, 1, 7, 2)
THREE = (
    "table p { a: ref q none; b: number; c: ref q none clear; }"
    " table q { a: ref p none cascade; b: ref q; } table r { }"
)


class Refusals(unittest.TestCase):
    def answers_of(self, table, row_id):
        told = run(load(EXAMPLE), fill(*ROWS), refers(table, row_id), row(table, row_id), tables())
        self.assertEqual(told[4], [0] + list(ROWS))
        return told[2:4]

    def test_no_such_table(self):
        for table in (-1, 2, 4, BIG, -BIG):
            self.assertEqual(self.answers_of(table, 1), [[-3], [-3]])
        self.assertEqual(run(refers(0, 1), row(0, 1)), [[-3], [-3]])

    def test_no_id(self):
        for row_id in (0, -1, 100, BIG, -BIG):
            self.assertEqual(self.answers_of(0, row_id), [[-5], [-5]])
        self.assertEqual(self.answers_of(0, 99), [[0, 0], [1]])

    def test_3_goes_ahead_of_5(self):
        self.assertEqual(self.answers_of(2, 0), [[-3], [-3]])
        self.assertEqual(self.answers_of(-1, 100), [[-3], [-3]])


class Refers(unittest.TestCase):
    def references(self, text, rows, table, row_id):
        """The references told, as (table, id, column); it's checked that nothing is changed."""
        told = run(load(text), fill(*rows), refers(table, row_id), tables())
        self.assertEqual(told[1], [0])
        self.assertEqual(told[3], [0] + list(rows))
        answer = told[2]
        self.assertEqual(answer[0], 0)
        self.assertEqual(len(answer), 2 + 3 * answer[1])
        return [tuple(answer[start:start + 3]) for start in range(2, len(answer), 3)]

    def test_none(self):
        self.assertEqual(self.references(EXAMPLE, ROWS, 1, 7), [])
        self.assertEqual(self.references("table p { }", (1, 1), 0, 1), [])
        self.assertEqual(self.references("table p { a: number; b: ref p none; }", (1, 1, 1, 0), 0, 1), [])

    def test_one(self):
        self.assertEqual(self.references(EXAMPLE, ROWS, 0, 1), [(0, 2, 1)])
        self.assertEqual(self.references(EXAMPLE, ROWS, 0, 2), [(1, 7, 0)])

    def test_several_of_one_row(self):
        text = "table p { } table q { a: ref p; b: ref p cascade; c: ref p none clear; d: number; }"
        rows = (2, 1, 2, 1, 5, 1, 1, 1, 1)
        self.assertEqual(self.references(text, rows, 0, 1), [(1, 5, 0), (1, 5, 1), (1, 5, 2)])
        rows = (2, 1, 2, 1, 5, 1, 2, 1, 1)
        self.assertEqual(self.references(text, rows, 0, 1), [(1, 5, 0), (1, 5, 2)])
        self.assertEqual(self.references(text, rows, 0, 2), [(1, 5, 1)])

    def test_of_several_rows_by_tables_then_ids_then_columns(self):
        rows = (3, 2, 4, 4, 0, 6, 0, 4, 4, 7, 4, 4, 4, 2, 3, 0, 4, 4, 2, 4, 1, 4)
        told = [(0, 2, 0), (0, 6, 2), (0, 7, 0), (0, 7, 2), (1, 3, 1), (1, 4, 1)]
        self.assertEqual(self.references(THREE, rows, 1, 4), told)
        self.assertEqual(self.references(THREE, rows, 0, 2), [(1, 4, 0)])
        self.assertEqual(self.references(THREE, rows, 2, 4), [])

    def test_by_ids_whatever_the_order_in_which_rows_were_put(self):
        told = run(
            load(EXAMPLE), insert(0, 5, 0, 5), insert(0, 9, 0, 5), insert(0, 1, 0, 5), insert(0, 7, 0, 0),
            update(0, 7, 1, 5), refers(0, 5),
        )
        self.assertEqual(told[6], [0, 4, 0, 1, 1, 0, 5, 1, 0, 7, 1, 0, 9, 1])

    def test_of_a_row_to_itself(self):
        self.assertEqual(self.references("table p { a: ref p; }", (2, 4, 4, 5, 4), 0, 4), [(0, 4, 0), (0, 5, 0)])

    def test_of_an_id_that_no_row_has(self):
        self.assertEqual(self.references(EXAMPLE, ROWS, 0, 5), [])
        self.assertEqual(self.references(EXAMPLE, ROWS, 0, 99), [])
        self.assertEqual(self.references(EXAMPLE, ROWS, 1, 2), [])
        self.assertEqual(self.references("table p { }", (0,), 0, 1), [])

    def test_the_most_references(self):
        columns = "a: ref p none; b: ref p none; c: ref p none; d: ref p none;"
        text = "".join("table " + name + " { " + columns + " } " for name in "pqrs")
        rows = 4 * ([8] + [number for row_id in range(1, 9) for number in (row_id, 5, 5, 5, 5)])
        places = [(at, row_id, column) for at in range(4) for row_id in range(1, 9) for column in range(4)]
        self.assertEqual(self.references(text, rows, 0, 5), places)


class Row(unittest.TestCase):
    def test_its_values(self):
        told = run(load(EXAMPLE), fill(*ROWS), row(0, 1), row(0, 2), row(1, 7), tables())
        self.assertEqual(told[2:], [[0, 5, 0], [0, 5, 1], [0, 2], [0] + list(ROWS)])

    def test_values_below_0(self):
        told = run(load("table p { a: number; b: number; }"), fill(1, 99, -1000000, 1000000), row(0, 99))
        self.assertEqual(told[2], [0, -1000000, 1000000])

    def test_of_an_id_that_no_row_has(self):
        told = run(load(EXAMPLE), fill(*ROWS), row(0, 3), row(0, 7), row(1, 1), row(1, 99), tables())
        self.assertEqual(told[2:], [[1], [1], [1], [1], [0] + list(ROWS)])

    def test_of_a_table_without_columns(self):
        told = run(load("table p { }"), fill(1, 4), row(0, 4), row(0, 5))
        self.assertEqual(told[2:], [[0], [1]])

    def test_behind_what_changes_it(self):
        told = run(load(EXAMPLE), row(0, 3), insert(0, 3, 9, 3), row(0, 3), update(0, 3, 1, 0), row(0, 3))
        self.assertEqual(told[1:], [[1], [0], [0, 9, 3], [0], [0, 9, 0]])


if __name__ == "__main__":
    unittest.main()
