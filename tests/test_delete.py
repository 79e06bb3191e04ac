"""delete and would: what goes along, what becomes none, what refuses a removal, and their refusals."""

import unittest
from itertools import product

from tests.calls import EXAMPLE, broken, delete, fill, load, refers, run, tables, would

BIG = 10 ** 18
ROWS = (2, 1, 5, 0, 2, 5, 1, 1, 7, 2)
STEPS = "table a { } table b { x: ref a cascade; } table c { x: ref b cascade; } table d { x: ref c none cascade; }"
FORMS = ("none", "none cascade", "none clear")


class Removing(unittest.TestCase):
    def removes(self, text, rows, removed, going, clearing, behind):
        """The row (table, id) takes along and makes none what's told; behind it these rows are left."""
        told = run(load(text), fill(*rows), would(*removed), tables(), delete(*removed), tables())
        self.assertEqual(told[1], [0])
        self.assertEqual(told[2], [0, len(going)] + joined(going) + [len(clearing)] + joined(clearing))
        self.assertEqual(told[3], [0] + list(rows))
        self.assertEqual(told[4], [0])
        self.assertEqual(told[5], [0] + list(behind))

    def is_held(self, text, rows, removed, table, row_id, column):
        """The removal of the row (table, id) is refused by this column of this row, and changes nothing."""
        told = run(load(text), fill(*rows), would(*removed), tables(), delete(*removed), tables())
        self.assertEqual(told[1], [0])
        self.assertEqual(told[2], [2, table, row_id, column])
        self.assertEqual(told[3], [0] + list(rows))
        self.assertEqual(told[4], [1, 5, table, row_id, column])
        self.assertEqual(told[5], [0] + list(rows))


def joined(lists):
    return [number for numbers in lists for number in numbers]


class Refusals(unittest.TestCase):
    def answers_of(self, table, row_id):
        told = run(load(EXAMPLE), fill(*ROWS), would(table, row_id), delete(table, row_id), tables())
        self.assertEqual(told[4], [0] + list(ROWS))
        return told[2:4]

    def test_no_such_table(self):
        for table in (-1, 2, 4, BIG, -BIG):
            self.assertEqual(self.answers_of(table, 1), [[-3], [-3]])
        self.assertEqual(run(would(0, 1), delete(0, 1)), [[-3], [-3]])

    def test_no_id(self):
        for row_id in (0, -1, 100, BIG, -BIG):
            self.assertEqual(self.answers_of(0, row_id), [[-5], [-5]])

    def test_3_goes_ahead_of_5(self):
        self.assertEqual(self.answers_of(2, 0), [[-3], [-3]])
        self.assertEqual(self.answers_of(-1, 100), [[-3], [-3]])

    def test_1_no_such_row(self):
        self.assertEqual(self.answers_of(0, 3), [[1], [1, 1, 0, 3, 0]])
        self.assertEqual(self.answers_of(0, 99), [[1], [1, 1, 0, 99, 0]])
        self.assertEqual(self.answers_of(1, 2), [[1], [1, 1, 1, 2, 0]])


class Going(Removing):
    def test_the_row_alone(self):
        self.removes("table p { }", (1, 9), (0, 9), [(0, 9)], [], (0,))
        self.removes("table p { }", (3, 1, 9, 99), (0, 9), [(0, 9)], [], (2, 1, 99))
        self.removes(EXAMPLE, ROWS, (1, 7), [(1, 7)], [], (2, 1, 5, 0, 2, 5, 1, 0))
        two = "table p { a: number; } table q { a: number; }"
        self.removes(two, (1, 1, 1, 1, 1, 1), (1, 1), [(1, 1)], [], (1, 1, 1, 0))

    def test_numbers_are_no_references(self):
        text = "table p { a: number; } table q { b: number; }"
        self.removes(text, (2, 5, 5, 6, 5, 1, 5, 5), (0, 5), [(0, 5)], [], (1, 6, 5, 1, 5, 5))

    def test_references_to_the_same_id_of_another_table_do_not_count(self):
        text = "table p { } table q { } table r { a: ref q; b: ref q cascade; c: ref q none clear; }"
        rows = (1, 5, 1, 5, 1, 1, 5, 5, 5)
        self.removes(text, rows, (0, 5), [(0, 5)], [], (0,) + rows[2:])

    def test_by_cascade(self):
        self.removes(EXAMPLE, ROWS, (0, 2), [(0, 2), (1, 7)], [], (1, 1, 5, 0, 0))
        rows = (2, 1, 2, 3, 4, 1, 5, 2, 6, 1, 0, 0)
        self.removes(STEPS, rows, (0, 1), [(0, 1), (1, 4), (1, 6)], [], (1, 2, 1, 5, 2, 0, 0))

    def test_by_cascade_over_several_steps_and_tables(self):
        rows = (2, 1, 2, 2, 4, 1, 5, 2, 3, 6, 5, 7, 4, 8, 4, 3, 1, 0, 2, 8, 3, 6)
        going = [(0, 1), (1, 4), (2, 7), (2, 8), (3, 2)]
        self.removes(STEPS, rows, (0, 1), going, [], (1, 2, 1, 5, 2, 1, 6, 5, 2, 1, 0, 3, 6))
        behind = (2, 1, 2, 2, 4, 1, 5, 2, 2, 6, 5, 7, 4, 2, 1, 0, 3, 6)
        self.removes(STEPS, rows, (2, 8), [(2, 8), (3, 2)], [], behind)

    def test_against_the_order_of_tables_and_ids(self):
        text = "table a { x: ref b cascade; } table b { x: ref c cascade; } table c { }"
        rows = (2, 1, 8, 2, 9, 2, 8, 6, 9, 5, 2, 5, 6)
        self.removes(text, rows, (2, 6), [(0, 1), (1, 8), (2, 6)], [], (1, 2, 9, 1, 9, 5, 1, 5))

    def test_by_cascade_of_the_own_table(self):
        text = "table p { up: ref p none cascade; }"
        rows = (5, 1, 3, 2, 0, 3, 2, 4, 1, 5, 0)
        self.removes(text, rows, (0, 2), [(0, 1), (0, 2), (0, 3), (0, 4)], [], (1, 5, 0))
        self.removes(text, rows, (0, 3), [(0, 1), (0, 3), (0, 4)], [], (2, 2, 0, 5, 0))
        self.removes(text, rows, (0, 4), [(0, 4)], [], (4, 1, 3, 2, 0, 3, 2, 5, 0))

    def test_round_a_circle(self):
        text = "table p { up: ref p none cascade; }"
        rows = (4, 1, 2, 2, 3, 3, 1, 4, 0)
        for row_id in (1, 2, 3):
            self.removes(text, rows, (0, row_id), [(0, 1), (0, 2), (0, 3)], [], (1, 4, 0))
        text = "table p { x: ref q none cascade; } table q { x: ref p none cascade; }"
        rows = (1, 1, 1, 2, 1, 1, 2, 0)
        self.removes(text, rows, (0, 1), [(0, 1), (1, 1)], [], (0, 1, 2, 0))
        self.removes(text, rows, (1, 1), [(0, 1), (1, 1)], [], (0, 1, 2, 0))

    def test_a_row_that_refers_to_itself(self):
        for form in ("", "none", "cascade", "none clear"):
            text = "table p { a: ref p " + form + "; }"
            self.removes(text, (2, 4, 4, 5, 5), (0, 4), [(0, 4)], [], (1, 5, 5))

    def test_a_row_that_goes_by_two_ways_is_told_once(self):
        text = "table p { } table q { a: ref p cascade; b: ref p cascade; }"
        text += " table r { a: ref p cascade; b: ref q cascade; }"
        self.removes(text, (1, 1, 1, 1, 1, 1, 1, 1, 1, 1), (0, 1), [(0, 1), (1, 1), (2, 1)], [], (0, 0, 0))

    def test_the_most_rows(self):
        name = "abcd"
        text = "".join("table " + name[at] + " { x: ref " + name[(at + 3) % 4] + " none cascade; } " for at in range(4))
        rows = joined([[8] + joined([[row_id, row_id - (at == 0)] for row_id in range(1, 9)]) for at in range(4)])
        going = [(table, row_id) for table in range(4) for row_id in range(1, 9)]
        self.removes(text, rows, (0, 1), going, [], (0, 0, 0, 0))


class Held(Removing):
    def test_by_a_row_that_stays(self):
        text = "table p { } table q { of: ref p; }"
        self.is_held(text, (2, 1, 2, 1, 7, 2), (0, 2), 1, 7, 0)
        self.removes(text, (2, 1, 2, 1, 7, 2), (0, 1), [(0, 1)], [], (1, 2, 1, 7, 2))
        text = "table p { of: ref p none; }"
        self.is_held(text, (2, 3, 0, 4, 3), (0, 3), 0, 4, 0)
        self.is_held(text, (2, 3, 4, 4, 3), (0, 3), 0, 4, 0)

    def test_the_first_row_by_ids(self):
        text = "table p { } table q { of: ref p; }"
        self.is_held(text, (2, 1, 2, 4, 3, 1, 5, 2, 8, 2, 9, 2), (0, 2), 1, 5, 0)

    def test_the_first_row_by_tables_ahead_of_ids(self):
        text = "table a { x: ref b none; } table b { x: ref b none; } table c { x: ref b; }"
        self.is_held(text, (1, 9, 1, 2, 1, 0, 2, 1, 1, 3, 1), (1, 1), 0, 9, 0)
        self.is_held(text, (1, 9, 0, 2, 1, 0, 2, 1, 1, 1, 1), (1, 1), 1, 2, 0)
        self.is_held(text, (1, 9, 2, 2, 1, 0, 2, 0, 1, 3, 1), (1, 1), 2, 3, 0)

    def test_the_rows_first_column_that_refuses(self):
        text = "table p { } table q { a: ref p none clear; b: number; c: ref p none; d: ref p; }"
        self.is_held(text, (2, 1, 2, 1, 5, 1, 1, 1, 1), (0, 1), 1, 5, 2)
        self.is_held(text, (2, 1, 2, 1, 5, 1, 1, 0, 1), (0, 1), 1, 5, 3)
        self.is_held(text, (2, 1, 2, 1, 5, 1, 1, 2, 1), (0, 1), 1, 5, 3)

    def test_by_a_reference_to_a_row_that_goes_along(self):
        text = "table p { } table q { of: ref p cascade; } table r { of: ref q; }"
        self.is_held(text, (1, 1, 1, 2, 1, 1, 3, 2), (0, 1), 2, 3, 0)

    def test_by_the_first_row_whichever_of_those_that_go_it_refers_to(self):
        text = "table p { up: ref p none cascade; } table q { of: ref p; }"
        self.is_held(text, (2, 1, 0, 2, 1, 2, 3, 2, 4, 1), (0, 1), 1, 3, 0)
        text = "table p { } table q { of: ref p cascade; } table r { a: ref q none; b: ref p none; }"
        self.is_held(text, (1, 1, 1, 2, 1, 1, 3, 2, 1), (0, 1), 2, 3, 0)
        self.is_held(text, (1, 1, 1, 2, 1, 2, 3, 0, 1, 4, 2, 0), (0, 1), 2, 3, 1)

    def test_a_row_that_goes_may_refer_so(self):
        text = "table p { } table q { a: ref p; b: ref p cascade; }"
        self.removes(text, (1, 1, 1, 2, 1, 1), (0, 1), [(0, 1), (1, 2)], [], (0, 0))
        self.is_held(text, (2, 1, 3, 2, 2, 1, 1, 4, 1, 3), (0, 1), 1, 4, 0)
        text = "table p { first: ref q none; } table q { of: ref p cascade; }"
        self.removes(text, (1, 1, 2, 1, 2, 1), (0, 1), [(0, 1), (1, 2)], [], (0, 0))

    def test_nothing_is_taken_along_or_made_none_by_a_refused_one(self):
        text = "table p { } table q { a: ref p cascade; } table r { a: ref p none clear; } table s { a: ref p; }"
        self.is_held(text, (1, 1, 1, 2, 1, 1, 3, 1, 1, 4, 1), (0, 1), 3, 4, 0)


class Clearing(Removing):
    def test_a_column_of_a_row_that_stays(self):
        self.removes(EXAMPLE, (2, 1, 5, 0, 2, 5, 1, 0), (0, 1), [(0, 1)], [(0, 2)], (1, 2, 5, 0, 0))

    def test_several_columns_of_one_row_are_told_once(self):
        text = "table p { } table q { a: ref p none clear; b: ref p none clear; c: ref p none clear; d: number; }"
        rows = (2, 1, 2, 2, 3, 1, 2, 1, 1, 4, 2, 1, 0, 1)
        self.removes(text, rows, (0, 1), [(0, 1)], [(1, 3), (1, 4)], (1, 2, 2, 3, 0, 2, 0, 1, 4, 2, 0, 0, 1))
        self.removes(text, rows, (0, 2), [(0, 2)], [(1, 3), (1, 4)], (1, 1, 2, 3, 1, 0, 1, 1, 4, 0, 1, 0, 1))

    def test_in_order_by_tables_and_then_by_ids(self):
        text = "table a { x: ref b none clear; } table b { x: ref b none clear; } table c { x: ref b none clear; }"
        rows = (3, 2, 5, 8, 5, 9, 4, 3, 4, 5, 5, 5, 6, 5, 2, 1, 5, 9, 5)
        clearing = [(0, 2), (0, 8), (1, 4), (1, 6), (2, 1), (2, 9)]
        behind = (3, 2, 0, 8, 0, 9, 4, 2, 4, 0, 6, 0, 2, 1, 0, 9, 0)
        self.removes(text, rows, (1, 5), [(1, 5)], clearing, behind)

    def test_of_references_to_rows_that_go_along(self):
        text = "table p { } table q { of: ref p cascade; } table r { a: ref q none clear; b: ref p none clear; }"
        rows = (1, 1, 2, 2, 1, 3, 1, 3, 4, 2, 0, 5, 0, 1, 6, 3, 1)
        going = [(0, 1), (1, 2), (1, 3)]
        self.removes(text, rows, (0, 1), going, [(2, 4), (2, 5), (2, 6)], (0, 0, 3, 4, 0, 0, 5, 0, 0, 6, 0, 0))

    def test_the_row_of_a_smaller_table_is_told_first_whatever_it_referred_to(self):
        text = "table a { x: ref d none clear; } table b { x: ref d none clear; } table c { x: ref a none clear; }"
        text += " table d { x: ref a none cascade; }"
        rows = (2, 1, 0, 2, 3, 1, 1, 3, 1, 1, 1, 1, 3, 1)
        self.removes(text, rows, (0, 1), [(0, 1), (3, 3)], [(0, 2), (1, 1), (2, 1)], (1, 2, 0, 1, 1, 0, 1, 1, 0, 0))

    def test_a_row_that_goes_is_not_told_again(self):
        text = "table p { } table q { a: ref p none clear; b: ref p none cascade; }"
        self.removes(text, (1, 1, 2, 2, 1, 1, 3, 1, 0), (0, 1), [(0, 1), (1, 2)], [(1, 3)], (0, 1, 3, 0, 0))

    def test_none_in_several_rows_of_a_unique_column(self):
        text = "table p { up: ref p none cascade; } table q { a: ref p none clear unique; }"
        rows = (2, 1, 0, 2, 1, 3, 1, 0, 2, 1, 3, 2)
        self.removes(text, rows, (0, 1), [(0, 1), (0, 2)], [(1, 2), (1, 3)], (0, 3, 1, 0, 2, 0, 3, 0))


class WouldAndDelete(unittest.TestCase):
    """Whatever refers to what in small tables, would tells what delete tells and does."""

    def agree(self, text, rows, removed, width):
        calls = (load(text), fill(*rows), would(*removed), tables(), delete(*removed), tables())
        told = run(*calls)
        self.assertEqual(told[1], [0])
        self.assertEqual(told[3], [0] + list(rows))
        before = by_ids(rows, width)
        behind = by_ids(told[5][1:], width)
        if told[4] != [0]:
            self.assertEqual(told[4], [1, 5] + told[2][1:])
            self.assertEqual(told[2][0], 2)
            self.assertEqual(behind, before)
            return
        going = [row_id for row_id in before if row_id not in behind]
        clearing = [row_id for row_id in behind if behind[row_id] != before[row_id]]
        expected = [0, len(going)] + joined([(0, row_id) for row_id in going])
        expected += [len(clearing)] + joined([(0, row_id) for row_id in clearing])
        self.assertEqual(told[2], expected, (text, rows, removed))
        for row_id in behind:
            values = [0 if value in going else value for value in before[row_id]]
            self.assertEqual(behind[row_id], values)
        left = run(load(text), fill(*told[5][1:]), broken(*told[5][1:]), *[refers(0, row_id) for row_id in going])
        self.assertEqual(left[1:], [[0], [0, 0]] + [[0, 0]] * len(going))

    def test_one_column_and_three_rows(self):
        for form, values in product(FORMS, product(range(4), repeat=3)):
            rows = [3] + joined(zip((1, 2, 3), values))
            for row_id in (1, 2, 3):
                self.agree("table p { a: ref p " + form + "; }", rows, (0, row_id), 1)

    def test_two_columns_and_two_rows(self):
        for first, second, values in product(FORMS, FORMS, product(range(3), repeat=4)):
            text = "table p { a: ref p " + first + "; b: ref p " + second + "; }"
            rows = [2, 1] + list(values[:2]) + [2] + list(values[2:])
            for row_id in (1, 2):
                self.agree(text, rows, (0, row_id), 2)


def by_ids(rows, width):
    """The rows of one table as a dict from ids to values."""
    table = {}
    for start in range(1, len(rows), width + 1):
        table[rows[start]] = list(rows[start + 1:start + 1 + width])
    return table


if __name__ == "__main__":
    unittest.main()
