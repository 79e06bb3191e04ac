"""insert: its refusals, and why a row isn't put into its table."""

import unittest

from tests.calls import EXAMPLE, fill, insert, load, run, tables

BIG = 10 ** 18
ROWS = (2, 1, 5, 0, 2, 5, 1, 1, 7, 2)
WIDE = "table p { a: number unique; b: number from 0 to 1; c: ref p none; d: ref q unique; } table q { }"
EIGHT = (8, 1, 2, 3, 4, 5, 6, 7, 8)


class Insert(unittest.TestCase):
    def answer(self, text, rows, call):
        """What the insert answers; it's checked that a refused one changes nothing."""
        told = run(load(text), fill(*rows), call, tables())
        self.assertEqual(told[1], [0])
        if told[2] != [0]:
            self.assertEqual(told[3], [0] + list(rows))
        return told[2]

    def test_refusals(self):
        for table in (-1, 2, BIG, -BIG):
            self.assertEqual(self.answer(EXAMPLE, ROWS, insert(table, 3, 0, 0)), [-3])
        for row_id in (0, -1, 100, BIG, -BIG):
            self.assertEqual(self.answer(EXAMPLE, ROWS, insert(0, row_id, 0, 0)), [-5])
        for values in ((), (0,), (0, 0, 0), (0, 1000001), (-1000001, 0), (BIG, 0), (0, -BIG), [0] * 5000):
            self.assertEqual(self.answer(EXAMPLE, ROWS, insert(0, 3, *values)), [-7], values)

    def test_the_order_of_refusals(self):
        self.assertEqual(self.answer(EXAMPLE, ROWS, insert(2, 0)), [-3])
        self.assertEqual(self.answer(EXAMPLE, ROWS, insert(-1, 100, BIG)), [-3])
        self.assertEqual(self.answer(EXAMPLE, ROWS, insert(1, 0)), [-5])
        self.assertEqual(self.answer(EXAMPLE, ROWS, insert(1, 100, BIG)), [-5])
        self.assertEqual(self.answer(EXAMPLE, ROWS, insert(1, 7)), [-7])
        self.assertEqual(self.answer("table p { }", EIGHT, insert(0, 9, 0)), [-7])

    def test_a_row_is_put_among_the_others_by_its_id(self):
        told = run(
            load("table p { a: number; } table q { }"),
            insert(0, 50, 7), insert(0, 99, -1000000), insert(0, 1, 1000000), insert(1, 1), tables(),
        )
        self.assertEqual(told[1:], [[0], [0], [0], [0], [0, 3, 1, 1000000, 50, 7, 99, -1000000, 1, 1]])

    def test_1_a_row_with_this_id(self):
        self.assertEqual(self.answer(EXAMPLE, ROWS, insert(0, 2, 5, 0)), [1, 1, 0, 2, 0])
        self.assertEqual(self.answer(EXAMPLE, ROWS, insert(1, 7, 1)), [1, 1, 1, 7, 0])
        self.assertEqual(self.answer(EXAMPLE, ROWS, insert(1, 2, 1)), [0])

    def test_6_a_table_with_8_rows(self):
        self.assertEqual(self.answer("table p { }", EIGHT, insert(0, 9)), [1, 6, 0, 9, 0])
        self.assertEqual(self.answer("table p { }", (7, 1, 2, 3, 4, 5, 6, 7), insert(0, 8)), [0])
        self.assertEqual(self.answer("table p { } table q { }", EIGHT + (0,), insert(1, 9)), [0])

    def test_1_goes_ahead_of_6_and_both_ahead_of_the_rules(self):
        self.assertEqual(self.answer("table p { }", EIGHT, insert(0, 8)), [1, 1, 0, 8, 0])
        text = "table p { b: number; a: number from 0 to 1; }"
        rows = [8] + [number for row_id in range(1, 9) for number in (row_id, 0, 0)]
        self.assertEqual(self.answer(text, rows, insert(0, 8, 0, 7)), [1, 1, 0, 8, 0])
        self.assertEqual(self.answer(text, rows, insert(0, 9, 0, 7)), [1, 6, 0, 9, 0])
        self.assertEqual(self.answer(EXAMPLE, ROWS, insert(0, 2, 5, 9)), [1, 1, 0, 2, 0])

    def test_2_3_and_4_with_their_columns(self):
        rows = (1, 1, 5, 0, 0, 3, 2, 3, 4)
        self.assertEqual(self.answer(WIDE, rows, insert(0, 2, 6, 1, 1, 4)), [0])
        self.assertEqual(self.answer(WIDE, rows, insert(0, 2, 6, 2, 1, 4)), [1, 2, 0, 2, 1])
        self.assertEqual(self.answer(WIDE, rows, insert(0, 2, 6, 1, 9, 4)), [1, 3, 0, 2, 2])
        self.assertEqual(self.answer(WIDE, rows, insert(0, 2, 6, 1, -1, 4)), [1, 3, 0, 2, 2])
        self.assertEqual(self.answer(WIDE, rows, insert(0, 2, 6, 1, 1, 0)), [1, 3, 0, 2, 3])
        self.assertEqual(self.answer(WIDE, rows, insert(0, 2, 6, 1, 1, 5)), [1, 3, 0, 2, 3])
        self.assertEqual(self.answer(WIDE, rows, insert(0, 2, 6, 1, 1, 3)), [1, 4, 0, 2, 3])
        self.assertEqual(self.answer(WIDE, rows, insert(0, 2, 5, 1, 1, 4)), [1, 4, 0, 2, 0])

    def test_the_first_rule_is_told(self):
        rows = (1, 1, 5, 0, 0, 3, 2, 3, 4)
        self.assertEqual(self.answer(WIDE, rows, insert(0, 2, 5, 9, 9, 9)), [1, 4, 0, 2, 0])
        self.assertEqual(self.answer(WIDE, rows, insert(0, 2, 6, 9, 9, 9)), [1, 2, 0, 2, 1])
        self.assertEqual(self.answer(WIDE, rows, insert(0, 2, 6, 1, 9, 3)), [1, 3, 0, 2, 2])

    def test_none_is_not_held_against_a_unique_column(self):
        text = "table p { a: ref p none unique; }"
        self.assertEqual(self.answer(text, (1, 1, 0), insert(0, 2, 0)), [0])
        self.assertEqual(self.answer(text, (1, 1, 1), insert(0, 2, 1)), [1, 4, 0, 2, 0])
        self.assertEqual(self.answer("table p { a: number unique; }", (1, 1, 0), insert(0, 2, 0)), [1, 4, 0, 2, 0])

    def test_a_row_may_refer_to_itself(self):
        self.assertEqual(self.answer("table p { a: ref p; }", (0,), insert(0, 9, 9)), [0])
        self.assertEqual(self.answer("table p { a: ref p unique; }", (0,), insert(0, 9, 9)), [0])
        self.assertEqual(self.answer("table p { a: ref p; }", (0,), insert(0, 9, 8)), [1, 3, 0, 9, 0])
        self.assertEqual(self.answer("table p { a: ref q; } table q { }", (0, 0), insert(0, 9, 9)), [1, 3, 0, 9, 0])

    def test_what_is_put_counts_for_what_comes_behind(self):
        told = run(load(EXAMPLE), insert(1, 1, 3), insert(0, 3, 0, 0), insert(1, 1, 3), insert(1, 2, 3), tables())
        self.assertEqual(told[1:], [[1, 3, 1, 1, 0], [0], [0], [1, 4, 1, 2, 0], [0, 1, 3, 0, 0, 1, 1, 3]])


if __name__ == "__main__":
    unittest.main()
