"""many: its refusals, and statements carried out all or none, each checked or with the rules at the end."""

import unittest

from tests.calls import EXAMPLE, delete, fill, insert, load, many, run, tables, update, with_list

BIG = 10 ** 18
ROWS = (2, 1, 5, 0, 2, 5, 1, 1, 7, 2)
CHECKED = 0
AT_END = 1
BOTH = (CHECKED, AT_END)


def put(table, row_id, *values):
    return [0, table, row_id] + list(values)


def change(table, row_id, *pairs):
    return [1, table, row_id, len(pairs) // 2] + list(pairs)


def take(table, row_id):
    return [2, table, row_id]


class Statements(unittest.TestCase):
    text = EXAMPLE
    rows = ROWS

    def does(self, mode, statements, behind):
        """The statements are carried out, all of them, and these rows are left."""
        told = run(load(self.text), fill(*self.rows), many(mode, *statements), tables())
        self.assertEqual(told[1:], [[0], [0, len(statements)], [0] + list(behind)])

    def refuses(self, mode, statements, *answer):
        """The answer is this one, and nothing is changed."""
        told = run(load(self.text), fill(*self.rows), many(mode, *statements), tables())
        self.assertEqual(told[1:], [[0], list(answer), [0] + list(self.rows)], statements)


class Refusals(Statements):
    def is_no_list(self, *numbers):
        for mode in BOTH:
            self.refuses(mode, [numbers], -7)
            # Behind a good statement it's the same, and that one isn't carried out either.
            if len(numbers) < 4990:
                self.refuses(mode, [put(0, 9, 0, 0), numbers], -7)

    def test_8_no_such_mode(self):
        for mode in (2, -1, 3, BIG, -BIG):
            self.refuses(mode, [], -8)
            self.refuses(mode, [put(0, 3, 0, 0)], -8)

    def test_8_goes_ahead_of_7(self):
        for mode in (2, -1):
            self.refuses(mode, [[9]], -8)
            self.refuses(mode, [put(0, 3, 0, 0), [0]], -8)
            self.refuses(mode, [take(0, 1)] * 31, -8)

    def test_7_a_kind_of_statement_that_there_is_not(self):
        for kind in (3, -1, 10, BIG, -BIG):
            self.is_no_list(kind, 0, 3)
            self.is_no_list(kind, 0, 3, 0, 0)
            self.is_no_list(kind)

    def test_7_a_table_that_there_is_not(self):
        for table in (2, -1, BIG, -BIG):
            self.is_no_list(0, table, 3, 0, 0)
            self.is_no_list(0, table, 3)
            self.is_no_list(1, table, 1, 0)
            self.is_no_list(1, table, 1, 1, 0, 0)
            self.is_no_list(2, table, 1)
        self.assertEqual(run(many(0, take(0, 1)), many(1, put(0, 1))), [[-7], [-7]])

    def test_7_an_id_that_there_can_not_be(self):
        for row_id in (0, 100, -1, BIG, -BIG):
            self.is_no_list(0, 0, row_id, 0, 0)
            self.is_no_list(1, 0, row_id, 1, 0, 5)
            self.is_no_list(1, 0, row_id, 0)
            self.is_no_list(2, 0, row_id)

    def test_7_a_value_out_of_its_bounds(self):
        for value in (1000001, -1000001, BIG, -BIG):
            self.is_no_list(0, 0, 3, value, 0)
            self.is_no_list(0, 0, 3, 0, value)
            self.is_no_list(1, 0, 1, 1, 0, value)
            self.is_no_list(1, 0, 1, 2, 1, 0, 0, value)

    def test_7_more_than_4_or_fewer_than_0_columns(self):
        for count in (5, -1, -3, BIG, -BIG):
            self.is_no_list(1, 0, 1, count)
            self.is_no_list(1, 0, 1, count, 0, 5)
            self.is_no_list(1, 0, 1, count, 0, 5, 1, 0, 2, 0, 3, 0, 4, 0)

    def test_7_more_columns_than_the_table_has(self):
        self.is_no_list(1, 0, 1, 3, 0, 5, 1, 0, 2, 0)
        self.is_no_list(1, 0, 1, 4, 0, 5, 1, 0, 2, 0, 3, 0)
        self.is_no_list(1, 1, 7, 2, 0, 2, 1, 2)

    def test_7_a_column_that_the_table_does_not_have(self):
        for column in (2, 3, 4, -1, BIG, -BIG):
            self.is_no_list(1, 0, 1, 1, column, 0)
            self.is_no_list(1, 0, 1, 2, 0, 5, column, 0)
        self.is_no_list(1, 1, 7, 1, 1, 2)

    def test_7_a_column_twice(self):
        self.is_no_list(1, 0, 1, 2, 0, 5, 0, 5)
        self.is_no_list(1, 0, 1, 2, 1, 0, 1, 1)
        self.is_no_list(1, 0, 1, 3, 0, 5, 1, 0, 0, 5)

    def test_7_a_list_that_ends_within_a_statement(self):
        for statement in (put(0, 3, 5, 1), put(1, 9, 1), change(0, 1, 0, 5, 1, 0), change(0, 1), take(0, 1)):
            for count in range(1, len(statement)):
                self.is_no_list(*statement[:count])

    def test_7_a_value_too_many(self):
        self.is_no_list(0, 0, 3, 0, 0, 5)
        self.is_no_list(2, 0, 1, 3)
        self.is_no_list(*[0] * 5000)

    def test_7_goes_ahead_of_what_the_statements_would_be_refused_with(self):
        for mode in BOTH:
            self.refuses(mode, [put(0, 1, 10, 9), [7]], -7)
            self.refuses(mode, [take(0, 50), take(0, 100)], -7)

    def test_30_and_31_statements(self):
        for mode in BOTH:
            thirty = [put(0, 9, 0, 0), take(0, 9)] * 15
            self.does(mode, thirty, ROWS)
            self.refuses(mode, thirty + [put(0, 9, 0, 0)], -7)
            self.refuses(mode, thirty + thirty, -7)
            self.does(mode, [change(0, 1)] * 30, ROWS)
            self.refuses(mode, [change(0, 1)] * 31, -7)
            self.refuses(mode, [change(0, 1)] * 30 + [[1]], -7)

    def test_the_longest_statements(self):
        text = "table p { a: number; b: number; c: number; d: number; }"
        changes = [change(0, 1, 3, at, 2, -at, 1, 1000000, 0, -1000000) for at in range(30)]
        for mode in BOTH:
            told = run(load(text), insert(0, 1, 0, 0, 0, 0), many(mode, *changes), tables())
            self.assertEqual(told[2:], [[0, 30], [0, 1, 1, -1000000, 1000000, -29, 29]])


class InBothModes(Statements):
    def test_no_statements(self):
        for mode in BOTH:
            self.does(mode, [], ROWS)
            self.assertEqual(run(many(mode)), [[0, 0]])

    def test_good_statements_of_each_kind(self):
        statements = [put(0, 3, 9, 1), change(1, 7, 0, 3), take(0, 2), put(1, 8, 1), change(0, 3, 1, 3, 0, 0)]
        for mode in BOTH:
            self.does(mode, statements, (2, 1, 5, 0, 3, 0, 3, 2, 7, 3, 8, 1))

    def test_statements_of_a_table_without_columns(self):
        self.text = "table p { }"
        self.rows = (1, 4)
        for mode in BOTH:
            self.does(mode, [put(0, 5), change(0, 5), take(0, 4)], (1, 5))
            self.refuses(mode, [put(0, 5), change(0, 6)], 1, 1, 1, 0, 6, 0)

    def test_an_update_of_no_columns(self):
        for mode in BOTH:
            self.does(mode, [change(0, 2)], ROWS)
            self.refuses(mode, [change(0, 3)], 1, 0, 1, 0, 3, 0)

    def test_each_is_carried_out_behind_the_one_ahead(self):
        for mode in BOTH:
            statements = [take(1, 7), put(1, 7, 1), change(1, 7, 0, 2), take(1, 7), put(1, 7, 1)]
            self.does(mode, statements, (2, 1, 5, 0, 2, 5, 1, 1, 7, 1))
            statements = [put(0, 3, 0, 0), put(0, 4, 0, 3), put(1, 1, 4)]
            self.does(mode, statements, (4, 1, 5, 0, 2, 5, 1, 3, 0, 0, 4, 0, 3, 2, 1, 4, 7, 2))

    def test_1_an_insert_of_a_row_that_is_there(self):
        for mode in BOTH:
            self.refuses(mode, [put(0, 2, 5, 0)], 1, 0, 1, 0, 2, 0)
            self.refuses(mode, [put(0, 3, 5, 0), put(0, 3, 5, 0)], 1, 1, 1, 0, 3, 0)
            self.refuses(mode, [put(0, 2, 10, 9)], 1, 0, 1, 0, 2, 0)

    def test_6_an_insert_into_a_full_table(self):
        six = [put(0, row_id, 0, 0) for row_id in range(3, 9)]
        for mode in BOTH:
            self.refuses(mode, six + [put(0, 9, 0, 0)], 1, 6, 6, 0, 9, 0)
            self.refuses(mode, six + [put(0, 9, 10, 10)], 1, 6, 6, 0, 9, 0)
            self.refuses(mode, six + [put(0, 8, 0, 0)], 1, 6, 1, 0, 8, 0)
            behind = (8, 1, 5, 0, 2, 5, 1, 3, 0, 0, 4, 0, 0, 5, 0, 0, 6, 0, 0, 7, 0, 0, 9, 0, 0, 1, 7, 2)
            self.does(mode, six + [take(0, 8), put(0, 9, 0, 0)], behind)

    def test_1_an_update_or_a_delete_of_no_row(self):
        for mode in BOTH:
            self.refuses(mode, [change(0, 3, 0, 5)], 1, 0, 1, 0, 3, 0)
            self.refuses(mode, [change(0, 3, 0, 10, 1, 9)], 1, 0, 1, 0, 3, 0)
            self.refuses(mode, [take(0, 3)], 1, 0, 1, 0, 3, 0)
            self.refuses(mode, [take(1, 2)], 1, 0, 1, 1, 2, 0)
            self.refuses(mode, [take(1, 7), take(1, 7)], 1, 1, 1, 1, 7, 0)
            self.refuses(mode, [take(1, 7), put(0, 3, 0, 0), change(1, 7, 0, 1)], 1, 2, 1, 1, 7, 0)

    def test_the_first_that_is_refused_is_told(self):
        for mode in BOTH:
            self.refuses(mode, [put(0, 3, 0, 0), take(0, 50), take(0, 60), put(0, 1, 0, 0)], 1, 1, 1, 0, 50, 0)


class EachChecked(Statements):
    def test_2_3_and_4_of_an_insert(self):
        self.refuses(CHECKED, [put(0, 3, 10, 0)], 1, 0, 2, 0, 3, 0)
        self.refuses(CHECKED, [put(0, 3, 0, 0), put(0, 4, 0, 5)], 1, 1, 3, 0, 4, 1)
        self.refuses(CHECKED, [put(0, 3, 0, 0), put(0, 4, 0, 3), put(1, 8, 2)], 1, 2, 4, 1, 8, 0)

    def test_2_3_and_4_of_an_update(self):
        self.refuses(CHECKED, [change(0, 1, 0, -1)], 1, 0, 2, 0, 1, 0)
        self.refuses(CHECKED, [put(0, 3, 0, 0), change(0, 3, 0, 1, 1, 9)], 1, 1, 3, 0, 3, 1)
        self.refuses(CHECKED, [put(1, 8, 1), change(1, 8, 0, 2)], 1, 1, 4, 1, 8, 0)

    def test_a_rule_broken_on_the_way_counts(self):
        self.refuses(CHECKED, [put(1, 9, 3), put(0, 3, 5, 0)], 1, 0, 3, 1, 9, 0)
        self.refuses(CHECKED, [change(0, 1, 0, 10), change(0, 1, 0, 9)], 1, 0, 2, 0, 1, 0)
        self.refuses(CHECKED, [put(1, 8, 2), take(1, 7)], 1, 0, 4, 1, 8, 0)

    def test_a_delete_takes_along_and_makes_none(self):
        self.does(CHECKED, [take(0, 2)], (1, 1, 5, 0, 0))
        self.does(CHECKED, [take(0, 1)], (1, 2, 5, 0, 1, 7, 2))
        self.does(CHECKED, [take(0, 1), take(0, 2)], (0, 0))
        self.refuses(CHECKED, [take(0, 2), take(1, 7)], 1, 1, 1, 1, 7, 0)

    def test_what_a_statement_ahead_has_done_is_undone_where_one_is_refused(self):
        self.refuses(CHECKED, [take(0, 1), take(0, 9)], 1, 1, 1, 0, 9, 0)
        self.refuses(CHECKED, [take(0, 2), take(0, 9)], 1, 1, 1, 0, 9, 0)
        self.refuses(CHECKED, [change(0, 1, 0, 9, 1, 1), take(0, 9)], 1, 1, 1, 0, 9, 0)
        self.refuses(CHECKED, [put(0, 3, 0, 0), take(0, 9)], 1, 1, 1, 0, 9, 0)

    def test_5_of_a_delete(self):
        self.text = "table p { } table q { a: number; of: ref p; }"
        self.rows = (2, 1, 2, 2, 5, 0, 2, 6, 0, 2)
        self.refuses(CHECKED, [take(0, 2)], 1, 0, 5, 1, 5, 1)
        self.refuses(CHECKED, [take(0, 1), take(1, 5), take(0, 2)], 1, 2, 5, 1, 6, 1)
        self.does(CHECKED, [take(1, 5), change(1, 6, 1, 1), take(0, 2)], (1, 1, 1, 6, 0, 1))

    def test_it_is_the_same_as_one_call_behind_the_other(self):
        statements = (put(0, 3, 9, 1), change(0, 1, 1, 3), take(0, 2), put(1, 8, 1), change(1, 8, 0, 3), take(0, 1))
        calls = (
            insert(0, 3, 9, 1), update(0, 1, 1, 3), delete(0, 2), insert(1, 8, 1), update(1, 8, 0, 3), delete(0, 1),
        )
        for count in range(len(calls) + 1):
            told = run(load(EXAMPLE), fill(*ROWS), *calls[:count], tables())
            self.does(CHECKED, statements[:count], told[-1][1:])


class RulesAtTheEnd(Statements):
    def test_what_is_broken_on_the_way_and_good_at_the_end(self):
        self.does(AT_END, [put(1, 9, 3), put(0, 3, 5, 0)], (3,) + ROWS[1:7] + (3, 5, 0, 2, 7, 2, 9, 3))
        self.does(AT_END, [change(0, 1, 0, 10), change(0, 1, 0, 9)], (2, 1, 9) + ROWS[3:])
        self.does(AT_END, [put(1, 8, 2), take(1, 7)], ROWS[:7] + (1, 8, 2))
        self.does(AT_END, [put(0, 3, 10, 50), take(0, 3)], ROWS)

    def test_rows_that_refer_to_each_other(self):
        self.text = "table p { a: ref q; } table q { a: ref p; }"
        self.rows = (0, 0)
        self.refuses(CHECKED, [put(0, 1, 2), put(1, 2, 1)], 1, 0, 3, 0, 1, 0)
        self.does(AT_END, [put(0, 1, 2), put(1, 2, 1)], (1, 1, 2, 1, 2, 1))
        self.rows = (1, 1, 2, 1, 2, 1)
        self.refuses(CHECKED, [take(0, 1), take(1, 2)], 1, 0, 5, 1, 2, 0)
        self.does(AT_END, [take(0, 1), take(1, 2)], (0, 0))

    def test_values_that_change_places_in_a_unique_column(self):
        self.text = "table p { a: number unique; }"
        self.rows = (2, 1, 5, 2, 6)
        statements = [change(0, 1, 0, 6), change(0, 2, 0, 5)]
        self.refuses(CHECKED, statements, 1, 0, 4, 0, 1, 0)
        self.does(AT_END, statements, (2, 1, 6, 2, 5))

    def test_what_a_statement_ahead_has_done_is_undone_where_one_is_refused(self):
        for last, answer in ((take(0, 9), (1, 1, 1, 0, 9, 0)), (change(0, 2, 0, 10), (1, 2, 2, 0, 2, 0))):
            self.refuses(AT_END, [take(1, 7), last], *answer)
            self.refuses(AT_END, [change(0, 1, 0, 9, 1, 1), last], *answer)
            self.refuses(AT_END, [put(0, 3, 0, 0), last], *answer)

    def test_how_many_there_are_is_told_of_a_rule_at_the_end(self):
        self.refuses(AT_END, [put(0, 3, 10, 0)], 1, 1, 2, 0, 3, 0)
        self.refuses(AT_END, [put(0, 3, 0, 9), put(0, 4, 0, 0), put(0, 5, 0, 0)], 1, 3, 3, 0, 3, 1)
        self.refuses(AT_END, [put(1, 8, 2)], 1, 1, 4, 1, 7, 0)
        self.refuses(AT_END, [change(0, 1, 0, 10)] * 30, 1, 30, 2, 0, 1, 0)

    def test_the_first_broken_rule_by_tables_then_by_ids_then_by_columns(self):
        statements = [put(1, 1, 9), put(0, 9, 0, 99), put(0, 3, 10, 99), change(0, 1, 1, 98)]
        self.refuses(AT_END, statements, 1, 4, 3, 0, 1, 1)
        self.refuses(AT_END, statements[:3], 1, 3, 2, 0, 3, 0)
        self.refuses(AT_END, statements[:2], 1, 2, 3, 0, 9, 1)
        self.refuses(AT_END, statements[:1], 1, 1, 3, 1, 1, 0)

    def test_a_statement_that_is_refused_goes_ahead_of_the_rules(self):
        self.refuses(AT_END, [put(0, 3, 10, 9), take(0, 50)], 1, 1, 1, 0, 50, 0)
        self.refuses(AT_END, [put(0, 3, 10, 9), put(0, 3, 5, 0)], 1, 1, 1, 0, 3, 0)

    def test_a_delete_takes_nothing_along(self):
        self.refuses(AT_END, [take(0, 2)], 1, 1, 3, 1, 7, 0)
        self.does(AT_END, [take(0, 2), take(1, 7)], (1, 1, 5, 0, 0))
        self.does(AT_END, [take(0, 2), change(1, 7, 0, 1)], (1, 1, 5, 0, 1, 7, 1))

    def test_a_delete_makes_nothing_none(self):
        self.refuses(AT_END, [take(0, 1)], 1, 1, 3, 0, 2, 1)
        self.does(AT_END, [take(0, 1), change(0, 2, 1, 0)], (1, 2, 5, 0, 1, 7, 2))
        self.does(AT_END, [take(0, 1), put(0, 1, 9, 0)], (2, 1, 9) + ROWS[3:])

    def test_a_delete_is_not_refused_with_5(self):
        self.text = "table p { } table q { of: ref p; }"
        self.rows = (1, 1, 1, 5, 1)
        self.does(AT_END, [take(0, 1), take(1, 5)], (0, 0))
        self.refuses(AT_END, [take(0, 1)], 1, 1, 3, 1, 5, 0)
        self.refuses(CHECKED, [take(0, 1)], 1, 0, 5, 1, 5, 0)

    def test_the_same_statements_checked_and_with_the_rules_at_the_end(self):
        statements = [put(1, 9, 3), put(0, 3, 5, 0)]
        self.refuses(CHECKED, statements, 1, 0, 3, 1, 9, 0)
        self.does(AT_END, statements, (3,) + ROWS[1:7] + (3, 5, 0, 2, 7, 2, 9, 3))
        self.does(CHECKED, [take(0, 2)], (1, 1, 5, 0, 0))
        self.refuses(AT_END, [take(0, 2)], 1, 1, 3, 1, 7, 0)
        self.refuses(CHECKED, [take(0, 2), take(1, 7)], 1, 1, 1, 1, 7, 0)
        self.does(AT_END, [take(0, 2), take(1, 7)], (1, 1, 5, 0, 0))


class WhatIsHeld(unittest.TestCase):
    def test_the_calls_behind_go_on_from_what_was_carried_out(self):
        told = run(
            load(EXAMPLE), many(0, put(0, 1, 0, 0), put(1, 1, 1)), many(1, take(0, 1)), many(0, take(0, 1)),
            tables(), many(1, put(1, 2, 5), put(0, 5, 5, 5)), update(1, 2, 0, 5), tables(),
        )
        self.assertEqual(told[1:4], [[0, 2], [1, 1, 3, 1, 1, 0], [0, 1]])
        self.assertEqual(told[4:], [[0, 0, 0], [0, 2], [0], [0, 1, 5, 5, 5, 1, 2, 5]])

    def test_the_list_is_counted_by_its_length(self):
        self.assertEqual(run(load("table p { }"), with_list([10, 0], [0, 0, 1]), tables())[1:], [[0, 1], [0, 1, 1]])


if __name__ == "__main__":
    unittest.main()
