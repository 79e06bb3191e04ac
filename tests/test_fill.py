"""fill and broken: the list's form, the rules and the order in which they're told."""

import unittest

from tests.calls import EXAMPLE, broken, fill, load, run, tables

BIG = 10 ** 18
TWO = "table p { a: number; b: number; } table q { }"


class Form(unittest.TestCase):
    def is_refused(self, text, *rows):
        told = run(load(text), fill(*rows), broken(*rows), tables())
        self.assertEqual(told[1:3], [[-4], [-4]], rows)
        self.assertEqual(set(told[3]), {0})

    def is_taken(self, text, *rows):
        told = run(load(text), fill(*rows), broken(*rows), tables())
        self.assertEqual(told[1:], [[0], [0, 0], [0] + list(rows)])

    def test_lists_of_the_form(self):
        self.is_taken("")
        self.is_taken(TWO, 0, 0)
        self.is_taken(TWO, 1, 5, 0, 0, 0)
        self.is_taken(TWO, 2, 1, 5, 6, 99, -5, 6, 2, 1, 99)
        self.is_taken(TWO, 0, 8, 1, 2, 3, 4, 5, 6, 7, 8)
        self.is_taken(TWO, 1, 1, 1000000, -1000000, 0)

    def test_too_short(self):
        self.is_refused(TWO)
        self.is_refused(TWO, 0)
        self.is_refused(TWO, 1)
        self.is_refused(TWO, 1, 5)
        self.is_refused(TWO, 1, 5, 0)
        self.is_refused(TWO, 1, 5, 0, 0)
        self.is_refused(TWO, 2, 5, 0, 0, 0)
        self.is_refused(TWO, 0, 1)
        self.is_refused(TWO, 0, 2, 1)

    def test_too_long(self):
        self.is_refused("", 0)
        self.is_refused(TWO, 0, 0, 0)
        self.is_refused(TWO, 1, 5, 0, 0, 0, 1)
        self.is_refused(TWO, 0, 1, 5, 5)
        self.is_refused(TWO, *[0] * 5000)

    def test_counts_of_rows(self):
        self.is_refused(TWO, 0, 9, 1, 2, 3, 4, 5, 6, 7, 8, 9)
        self.is_refused(TWO, -1, 0)
        self.is_refused(TWO, 0, -1)
        self.is_refused(TWO, -1, 4, 5)
        self.is_refused(TWO, BIG, 0)
        self.is_refused(TWO, 0, -BIG)

    def test_ids(self):
        for row_id in (0, -1, 100, BIG, -BIG):
            self.is_refused(TWO, 0, 1, row_id)
            self.is_refused(TWO, 1, row_id, 0, 0, 0)
        self.is_refused(TWO, 0, 2, 5, 5)
        self.is_refused(TWO, 0, 2, 5, 4)
        self.is_refused(TWO, 2, 5, 0, 0, 4, 0, 0, 0)
        self.is_refused(TWO, 0, 3, 1, 3, 2)

    def test_values(self):
        for value in (1000001, -1000001, BIG, -BIG):
            self.is_refused(TWO, 1, 5, value, 0, 0)
            self.is_refused(TWO, 1, 5, 0, value, 0)
        self.is_refused("table p { a: ref p; }", 1, 5, 1000001)

    def test_the_form_is_looked_at_ahead_of_the_rules(self):
        self.is_refused(EXAMPLE, 1, 5, 10, 7, 0, 0)
        self.is_refused(EXAMPLE, 1, 5, 10, 7, 1, 100, 7)


class Rules(unittest.TestCase):
    def breaks(self, text, rows, *faults):
        """Such rows break these rules: (rule, table, id, column) for each row that does."""
        told = run(load(text), broken(*rows), fill(*rows), tables())
        self.assertEqual(told[1], [0, len(faults)] + [number for fault in faults for number in fault])
        if faults:
            self.assertEqual(told[2], [1] + list(faults[0]))
            self.assertEqual(set(told[3]), {0})
        else:
            self.assertEqual(told[2:], [[0], [0] + list(rows)])

    def test_2_a_number_out_of_its_range(self):
        text = "table p { a: number from -3 to 4; }"
        self.breaks(text, [4, 1, -3, 2, 4, 3, 0, 4, 3])
        self.breaks(text, [4, 1, -4, 2, 4, 3, 5, 4, 1000000], (2, 0, 1, 0), (2, 0, 3, 0), (2, 0, 4, 0))
        self.breaks("table p { a: number from 5 to 5; }", [1, 1, 5])
        self.breaks("table p { a: number from 5 to 5; }", [1, 1, 0], (2, 0, 1, 0))

    def test_2_no_number_is_out_of_the_widest_range(self):
        self.breaks("table p { a: number; }", [2, 1, -1000000, 2, 1000000])

    def test_3_a_reference_to_a_row_that_is_not_there(self):
        text = "table p { } table q { a: ref p; }"
        self.breaks(text, [2, 3, 99, 2, 1, 3, 2, 99])
        rows = [1, 3, 6, 1, 3, 2, 4, 3, -3, 4, 1000000, 5, -1000000, 6, 1]
        self.breaks(text, rows, *[(3, 1, row_id, 0) for row_id in (2, 3, 4, 5, 6)])

    def test_3_a_reference_to_the_row_of_another_table(self):
        self.breaks("table p { } table q { a: ref p; }", [1, 3, 1, 4, 4], (3, 1, 4, 0))

    def test_3_none(self):
        self.breaks("table p { a: ref p; }", [1, 1, 0], (3, 0, 1, 0))
        self.breaks("table p { a: ref p cascade; }", [1, 1, 0], (3, 0, 1, 0))
        for form in ("none", "none clear", "none cascade"):
            self.breaks("table p { a: ref p " + form + "; }", [1, 1, 0])
            self.breaks("table p { a: ref p " + form + "; }", [1, 1, -1], (3, 0, 1, 0))
            self.breaks("table p { a: ref p " + form + "; }", [1, 1, 2], (3, 0, 1, 0))

    def test_3_to_the_own_table_and_to_later_ones(self):
        text = "table p { a: ref p; b: ref q none; } table q { }"
        self.breaks(text, [2, 1, 2, 5, 2, 2, 0, 1, 5])
        self.breaks(text, [2, 1, 2, 5, 2, 3, 0, 1, 5], (3, 0, 2, 0))
        self.breaks(text, [2, 1, 2, 5, 2, 2, 1, 1, 5], (3, 0, 2, 1))

    def test_4_each_of_the_rows_with_the_same_value_is_told(self):
        text = "table p { a: number unique; }"
        self.breaks(text, [3, 1, 5, 2, 6, 3, 7])
        self.breaks(text, [4, 1, 5, 2, 6, 3, 5, 4, 5], (4, 0, 1, 0), (4, 0, 3, 0), (4, 0, 4, 0))

    def test_4_of_references(self):
        text = "table p { } table q { a: ref p none unique; }"
        self.breaks(text, [2, 1, 2, 4, 1, 0, 2, 0, 3, 1, 4, 2])
        self.breaks(text, [2, 1, 2, 4, 1, 0, 2, 2, 3, 1, 4, 2], (4, 1, 2, 0), (4, 1, 4, 0))

    def test_4_zero_is_a_value_like_others_in_a_column_of_numbers(self):
        self.breaks("table p { a: number unique; }", [2, 1, 0, 2, 0], (4, 0, 1, 0), (4, 0, 2, 0))

    def test_4_other_columns_and_other_tables_do_not_count(self):
        self.breaks("table p { a: number unique; b: number; }", [2, 1, 5, 6, 2, 6, 6])
        self.breaks("table p { a: number unique; } table q { a: number unique; }", [1, 1, 5, 1, 2, 5])

    def test_in_one_column_2_and_3_go_ahead_of_4(self):
        self.breaks("table p { a: number from 0 to 1 unique; }", [2, 1, 5, 2, 5], (2, 0, 1, 0), (2, 0, 2, 0))
        self.breaks("table p { a: ref p unique; }", [2, 1, 5, 2, 5], (3, 0, 1, 0), (3, 0, 2, 0))
        self.breaks("table p { a: ref p unique; }", [2, 1, 0, 2, 0], (3, 0, 1, 0), (3, 0, 2, 0))

    def test_an_earlier_column_goes_ahead(self):
        text = "table p { a: number unique; b: number from 0 to 1; c: ref p; }"
        self.breaks(text, [2, 1, 5, 7, 9, 2, 5, 0, 1], (4, 0, 1, 0), (4, 0, 2, 0))
        self.breaks(text, [2, 1, 5, 7, 9, 2, 6, 0, 9], (2, 0, 1, 1), (3, 0, 2, 2))

    def test_by_tables_and_then_by_ids(self):
        text = "table p { a: ref q; } table q { a: number from 0 to 1; }"
        rows = [3, 2, 4, 5, 1, 9, 8, 2, 4, 2, 7, 3]
        self.breaks(text, rows, (3, 0, 5, 0), (3, 0, 9, 0), (2, 1, 4, 0), (2, 1, 7, 0))

    def test_the_example(self):
        self.breaks(EXAMPLE, [2, 1, 5, 0, 2, 5, 1, 1, 7, 2])


class WhatIsKept(unittest.TestCase):
    def test_a_filling_that_breaks_a_rule_or_the_form_changes_nothing(self):
        good = [2, 1, 5, 0, 2, 5, 1, 1, 7, 2]
        told = run(load(EXAMPLE), fill(*good), fill(1, 3, 10, 0, 0), tables(), fill(0, 1), tables())
        self.assertEqual(told[1:], [[0], [1, 2, 0, 3, 0], [0] + good, [-4], [0] + good])

    def test_a_good_filling_takes_the_place_of_all_rows(self):
        told = run(load(EXAMPLE), fill(2, 1, 5, 0, 2, 5, 1, 1, 7, 2), fill(1, 3, 0, 3, 0), tables())
        self.assertEqual(told[2:], [[0], [0, 1, 3, 0, 3, 0]])

    def test_references_are_looked_up_in_the_rows_that_are_given(self):
        told = run(load(EXAMPLE), fill(1, 1, 5, 0, 0), fill(0, 1, 7, 1), tables())
        self.assertEqual(told[2:], [[1, 3, 1, 7, 0], [0, 1, 1, 5, 0, 0]])

    def test_broken_changes_nothing(self):
        told = run(load(EXAMPLE), fill(1, 1, 5, 0, 0), broken(1, 3, 0, 3, 0), broken(1, 3, 10, 0, 0), tables())
        self.assertEqual(told[2:], [[0, 0], [0, 1, 2, 0, 3, 0], [0, 1, 1, 5, 0, 0]])


if __name__ == "__main__":
    unittest.main()
