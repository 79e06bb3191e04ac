"""update: its refusals, and why a row doesn't get other values."""

import unittest

from tests.calls import EXAMPLE, delete, fill, insert, load, row, run, tables, update

BIG = 10 ** 18
ROWS = (2, 1, 5, 0, 2, 5, 1, 1, 7, 2)
WIDE = "table p { a: number unique; b: number from 0 to 1; c: ref p none; d: ref q unique; } table q { }"
WIDE_ROWS = (2, 1, 5, 0, 0, 3, 2, 6, 1, 1, 4, 3, 3, 4, 5)


class Update(unittest.TestCase):
    def answer(self, text, rows, call):
        """What the update answers; it's checked that a refused one changes nothing."""
        told = run(load(text), fill(*rows), call, tables())
        self.assertEqual(told[1], [0])
        if told[2] != [0]:
            self.assertEqual(told[3], [0] + list(rows))
        return told[2]

    def row_behind(self, text, rows, call):
        """The row's values behind a good update; it's checked that no other row is changed."""
        told = run(load(text), fill(*rows), call, row(call[1], call[2]), delete(call[1], call[2]), tables())
        self.assertEqual(told[2], [0])
        without = run(load(text), fill(*rows), delete(call[1], call[2]), tables())
        self.assertEqual(told[4:], without[2:])
        return told[3][1:]

    def test_refusals_of_the_table_and_the_id(self):
        for table in (-1, 2, 4, BIG, -BIG):
            self.assertEqual(self.answer(EXAMPLE, ROWS, update(table, 1, 0, 5)), [-3])
        for row_id in (0, -1, 100, BIG, -BIG):
            self.assertEqual(self.answer(EXAMPLE, ROWS, update(0, row_id, 0, 5)), [-5])
        self.assertEqual(run(update(0, 1)), [[-3]])

    def test_7_an_odd_count_of_numbers(self):
        for pairs in ((0,), (0, 5, 1), (0, 5, 1, 0, 1), [0] * 4999):
            self.assertEqual(self.answer(EXAMPLE, ROWS, update(0, 1, *pairs)), [-7])

    def test_7_a_column_that_the_table_does_not_have(self):
        for pairs in ((2, 5), (-1, 5), (BIG, 5), (-BIG, 5), (0, 5, 2, 0), (2, 0, 0, 5)):
            self.assertEqual(self.answer(EXAMPLE, ROWS, update(0, 1, *pairs)), [-7])
        self.assertEqual(self.answer(EXAMPLE, ROWS, update(1, 7, 1, 2)), [-7])
        self.assertEqual(self.answer("table p { }", (1, 1), update(0, 1, 0, 0)), [-7])

    def test_7_a_column_twice(self):
        for pairs in ((0, 5, 0, 5), (0, 5, 1, 0, 0, 6), (1, 0, 1, 0), [0] * 5000):
            self.assertEqual(self.answer(EXAMPLE, ROWS, update(0, 1, *pairs)), [-7])

    def test_7_a_value_out_of_its_bounds(self):
        for value in (1000001, -1000001, BIG, -BIG):
            self.assertEqual(self.answer(EXAMPLE, ROWS, update(0, 1, 0, value)), [-7])
            self.assertEqual(self.answer(EXAMPLE, ROWS, update(0, 1, 0, 5, 1, value)), [-7])
        wide = "table p { a: number; }"
        for value in (1000000, -1000000):
            self.assertEqual(self.row_behind(wide, (1, 1, 0), update(0, 1, 0, value)), [value])

    def test_the_order_of_refusals(self):
        self.assertEqual(self.answer(EXAMPLE, ROWS, update(2, 0, 0)), [-3])
        self.assertEqual(self.answer(EXAMPLE, ROWS, update(-1, 100)), [-3])
        self.assertEqual(self.answer(EXAMPLE, ROWS, update(0, 0, 0)), [-5])
        self.assertEqual(self.answer(EXAMPLE, ROWS, update(0, 100, 9, BIG)), [-5])
        self.assertEqual(self.answer(EXAMPLE, ROWS, update(0, 3, 0)), [-7])
        self.assertEqual(self.answer(EXAMPLE, ROWS, update(0, 3, 2, 0)), [-7])
        self.assertEqual(self.answer(EXAMPLE, ROWS, update(0, 1, 0, 10, 1)), [-7])

    def test_no_pairs_change_nothing(self):
        self.assertEqual(self.row_behind(EXAMPLE, ROWS, update(0, 2)), [5, 1])
        self.assertEqual(self.row_behind("table p { }", (1, 1), update(0, 1)), [])
        self.assertEqual(self.answer(EXAMPLE, ROWS, update(0, 3)), [1, 1, 0, 3, 0])

    def test_some_columns_and_all(self):
        self.assertEqual(self.row_behind(EXAMPLE, ROWS, update(0, 2, 0, 9)), [9, 1])
        self.assertEqual(self.row_behind(EXAMPLE, ROWS, update(0, 2, 1, 0)), [5, 0])
        self.assertEqual(self.row_behind(EXAMPLE, ROWS, update(0, 2, 0, 0, 1, 2)), [0, 2])
        self.assertEqual(self.row_behind(WIDE, WIDE_ROWS, update(0, 2, 0, 7, 1, 0, 2, 2, 3, 5)), [7, 0, 2, 5])
        self.assertEqual(self.row_behind(WIDE, WIDE_ROWS, update(0, 2, 2, 0)), [6, 1, 0, 4])

    def test_pairs_in_any_order(self):
        self.assertEqual(self.row_behind(EXAMPLE, ROWS, update(0, 2, 1, 2, 0, 0)), [0, 2])
        self.assertEqual(self.row_behind(WIDE, WIDE_ROWS, update(0, 2, 3, 5, 1, 0, 2, 2, 0, 7)), [7, 0, 2, 5])
        self.assertEqual(self.row_behind(WIDE, WIDE_ROWS, update(0, 2, 3, 5, 0, 7)), [7, 1, 1, 5])

    def test_the_same_values_again(self):
        self.assertEqual(self.row_behind(WIDE, WIDE_ROWS, update(0, 2, 0, 6, 1, 1, 2, 1, 3, 4)), [6, 1, 1, 4])

    def test_1_no_such_row(self):
        self.assertEqual(self.answer(EXAMPLE, ROWS, update(0, 3, 0, 5)), [1, 1, 0, 3, 0])
        self.assertEqual(self.answer(EXAMPLE, ROWS, update(1, 2, 0, 2)), [1, 1, 1, 2, 0])
        self.assertEqual(self.answer(EXAMPLE, ROWS, update(0, 99, 1, 0)), [1, 1, 0, 99, 0])

    def test_1_goes_ahead_of_the_rules(self):
        self.assertEqual(self.answer(EXAMPLE, ROWS, update(0, 3, 1, 9)), [1, 1, 0, 3, 0])
        self.assertEqual(self.answer(EXAMPLE, ROWS, update(0, 3, 0, 10)), [1, 1, 0, 3, 0])

    def test_2_out_of_the_range(self):
        for value in (-1, 10, 1000000, -1000000):
            self.assertEqual(self.answer(EXAMPLE, ROWS, update(0, 2, 0, value)), [1, 2, 0, 2, 0])
        self.assertEqual(self.answer(WIDE, WIDE_ROWS, update(0, 2, 1, 2)), [1, 2, 0, 2, 1])

    def test_3_a_reference_to_no_row(self):
        for value in (3, 7, -1, 1000000):
            self.assertEqual(self.answer(EXAMPLE, ROWS, update(0, 2, 1, value)), [1, 3, 0, 2, 1])
        self.assertEqual(self.answer(EXAMPLE, ROWS, update(1, 7, 0, 0)), [1, 3, 1, 7, 0])
        self.assertEqual(self.answer(EXAMPLE, ROWS, update(1, 7, 0, 7)), [1, 3, 1, 7, 0])

    def test_4_a_value_of_another_row(self):
        self.assertEqual(self.answer(WIDE, WIDE_ROWS, update(0, 2, 0, 5)), [1, 4, 0, 2, 0])
        self.assertEqual(self.answer(WIDE, WIDE_ROWS, update(0, 1, 3, 4)), [1, 4, 0, 1, 3])
        text = "table p { a: ref p none unique; }"
        self.assertEqual(self.answer(text, (2, 1, 0, 2, 2), update(0, 2, 0, 0)), [0])
        self.assertEqual(self.answer(text, (2, 1, 0, 2, 2), update(0, 1, 0, 2)), [1, 4, 0, 1, 0])

    def test_the_first_rule_by_columns_is_told_whatever_the_pairs_order(self):
        self.assertEqual(self.answer(WIDE, WIDE_ROWS, update(0, 2, 3, 9, 2, 9, 1, 9, 0, 5)), [1, 4, 0, 2, 0])
        self.assertEqual(self.answer(WIDE, WIDE_ROWS, update(0, 2, 3, 9, 2, 9, 1, 9)), [1, 2, 0, 2, 1])
        self.assertEqual(self.answer(WIDE, WIDE_ROWS, update(0, 2, 3, 3, 2, 9)), [1, 3, 0, 2, 2])
        self.assertEqual(self.answer(WIDE, WIDE_ROWS, update(0, 2, 3, 3, 2, 0)), [1, 4, 0, 2, 3])

    def test_in_one_column_2_and_3_go_ahead_of_4(self):
        text = "table p { a: number from 0 to 5 unique; }"
        self.assertEqual(self.answer(text, (2, 1, 5, 2, 4), update(0, 2, 0, 6)), [1, 2, 0, 2, 0])
        text = "table p { a: ref p unique; }"
        self.assertEqual(self.answer(text, (2, 1, 1, 2, 2), update(0, 2, 0, 3)), [1, 3, 0, 2, 0])
        self.assertEqual(self.answer(text, (2, 1, 1, 2, 2), update(0, 2, 0, 1)), [1, 4, 0, 2, 0])

    def test_a_row_that_refers_to_itself(self):
        self.assertEqual(self.row_behind(EXAMPLE, ROWS, update(0, 1, 1, 1)), [5, 1])
        text = "table p { n: number; a: ref p unique; }"
        self.assertEqual(self.row_behind(text, (1, 4, 0, 4), update(0, 4, 0, 9)), [9, 4])
        self.assertEqual(self.row_behind(text, (1, 4, 0, 4), update(0, 4, 1, 4)), [0, 4])
        self.assertEqual(self.answer(text, (1, 4, 0, 4), update(0, 4, 1, 0)), [1, 3, 0, 4, 1])

    def test_what_is_changed_counts_for_what_comes_behind(self):
        told = run(
            load("table p { a: number unique; }"), fill(2, 1, 5, 2, 6),
            update(0, 1, 0, 6), update(0, 2, 0, 7), update(0, 1, 0, 6), insert(0, 3, 5), insert(0, 4, 6), tables(),
        )
        self.assertEqual(told[2:], [[1, 4, 0, 1, 0], [0], [0], [0], [1, 4, 0, 4, 0], [0, 3, 1, 6, 2, 7, 3, 5]])


if __name__ == "__main__":
    unittest.main()
