"""All calls in turn on one object: what's held goes on from one to the next, and a refused one changes nothing."""

import unittest

from tests.calls import (
    EXAMPLE, broken, delete, fill, insert, load, many, refers, row, run, tables, text_written, update, would, written,
)

BIG = 10 ** 18
ROWS = (2, 1, 5, 0, 2, 5, 1, 1, 7, 2)
HELD = "table p { age: number from 0 to 9; boss: ref p none; } table q { of: ref p cascade unique; }"

# Calls that are refused, or tell why not, where HELD and ROWS are held.
REFUSED = (
    load([256]), load([32] * 4097), load("table p {"), load("table q { a: ref z; }"), load("table p { } _"),
    fill(), fill(0), fill(0, 0, 0), fill(1, 1, 10, 0, 0), fill(1, 3, 0, 0, 1, 7, 4), fill(1, 3, 0, 0, 2, 7, 3, 8, 3),
    insert(2, 1), insert(0, 0, 0, 0), insert(0, 3, 0), insert(0, 3, 0, BIG), insert(0, 1, 0, 0),
    insert(0, 3, 10, 0), insert(0, 3, 0, 9), insert(1, 8, 2),
    update(2, 1), update(0, 100), update(0, 1, 0), update(0, 1, 2, 0), update(0, 1, 0, 5, 0, 5), update(0, 1, 0, BIG),
    update(0, 3, 0, 0), update(0, 1, 0, 10), update(0, 1, 0, 9, 1, 9), update(1, 7, 0, 0),
    delete(-1, 1), delete(0, 0), delete(0, 3), delete(0, 1),
    would(2, 1), would(0, 100), would(0, 3), would(0, 1), refers(2, 1), refers(0, 0), row(2, 1), row(0, 0), row(0, 3),
    broken(), broken(0),
    many(2), many(0, [3]), many(1, [0, 0, 3, 0]), many(0, [2, 0, 2], [2, 0, 2]), many(1, [2, 0, 1]),
    many(0, [1, 0, 1, 1, 0, 9], [0, 0, 3, 9, 9]), many(1, [1, 0, 1, 1, 0, 9], [0, 0, 3, 9, 9]),
    many(0, [2, 1, 7], [2, 0, 1]), many(1, [0, 0, 3, 0, 0], [2, 0, 4]),
)
# Calls that are good there and change nothing.
ONLY_TOLD = (
    written(), tables(), broken(*ROWS), broken(1, 3, 10, 9, 1, 7, 9), would(0, 2), would(1, 7),
    refers(0, 1), refers(0, 2), refers(1, 99), row(0, 1), row(1, 7), update(0, 1), update(0, 2, 1, 1, 0, 5),
    many(0), many(1), many(0, [0, 0, 3, 0, 0], [2, 0, 3]), many(1, [2, 1, 7], [0, 1, 7, 2]), fill(*ROWS),
)
CHANGING = (
    load(EXAMPLE), load(HELD), load(""), fill(0, 0), fill(1, 9, 0, 9, 1, 1, 9), insert(0, 3, 0, 3), insert(1, 8, 1),
    update(0, 1, 0, 9), update(1, 7, 0, 1), delete(0, 2), delete(1, 7), many(0, [2, 0, 2]), many(1, [2, 1, 7]),
)
LOOK = (
    written(), tables(), row(0, 1), row(0, 2), row(1, 7), refers(0, 1), refers(0, 2), would(0, 1), would(0, 2),
)


class OneObject(unittest.TestCase):
    start = (load(HELD), fill(*ROWS))

    def look_behind(self, *calls):
        """What's told of the object when these calls have been made on it."""
        return run(*(self.start + calls + LOOK))[-len(LOOK):]

    def test_a_refused_call_leaves_the_object_as_it_was(self):
        before = self.look_behind()
        for call in REFUSED:
            answer = run(*(self.start + (call,)))[-1]
            self.assertNotEqual(answer[0], 0, call)
            self.assertTrue(answer[0] in (1, 2) or len(answer) == 1, call)
            self.assertEqual(self.look_behind(call), before, call)
        self.assertEqual(self.look_behind(*REFUSED), before)

    def test_a_call_that_only_tells_leaves_it_so_too(self):
        before = self.look_behind()
        for call in ONLY_TOLD:
            self.assertEqual(run(*(self.start + (call,)))[-1][0], 0, call)
            self.assertEqual(self.look_behind(call), before, call)
        self.assertEqual(self.look_behind(*ONLY_TOLD), before)

    def test_what_a_changing_call_does_is_the_same_behind_refused_ones_and_telling_ones(self):
        for call in CHANGING:
            self.assertEqual(run(*(self.start + (call,)))[-1][0], 0, call)
            behind = self.look_behind(call)
            self.assertNotEqual(behind, self.look_behind(), call)
            self.assertEqual(self.look_behind(*(REFUSED + (call,))), behind, call)
            self.assertEqual(self.look_behind(*(ONLY_TOLD + (call,))), behind, call)

    def test_two_calls_one_behind_the_other(self):
        # What the first one leaves, told as a text and rows, is all that the second one goes on from.
        for first in CHANGING:
            told = run(*(self.start + (first, written(), tables())))
            again = (load(text_written(told[-2])), fill(*told[-1][1:]))
            for second in CHANGING + REFUSED + ONLY_TOLD:
                behind = run(*(self.start + (first, second) + LOOK))[3:]
                self.assertEqual(behind, run(*(again + (second,) + LOOK))[2:], (first, second))


class InTurn(unittest.TestCase):
    def test_every_call_on_an_object_without_tables(self):
        told = run(
            many(0), many(1), many(0, [2, 0, 1]), update(0, 1), delete(0, 1), would(0, 1), refers(0, 1), row(0, 1),
            insert(0, 1), tables(), written(), fill(), broken(), fill(0), broken(0), many(3), load(""), tables(),
        )
        self.assertEqual(told, [
            [0, 0], [0, 0], [-7], [-3], [-3], [-3], [-3], [-3],
            [-3], [0], [0], [0], [0, 0], [-4], [-4], [-8], [0, 0, 0], [0],
        ])

    def test_every_call_behind_a_load_that_has_a_fault(self):
        told = run(
            load(EXAMPLE), fill(*ROWS), load("table p { a: number from 1 to 0; }"), row(0, 2), refers(0, 2),
            would(0, 2), update(0, 2, 0, 9), insert(1, 8, 1), many(0, [1, 1, 7, 1, 0, 2]), delete(0, 1), tables(),
            broken(0, 0), fill(0, 0), tables(),
        )
        self.assertEqual(told[2:], [
            [1, 8, 30], [0, 5, 1], [0, 1, 1, 7, 0],
            [0, 2, 0, 2, 1, 7, 0], [0], [0], [0, 1], [0], [0, 1, 2, 9, 0, 1, 7, 2],
            [0, 0], [0], [0, 0, 0],
        ])

    def test_a_fault_in_the_first_load_leaves_no_tables(self):
        told = run(load("table"), row(0, 1), many(1, [0, 0, 1]), tables(), load("table p { }"), many(1, [0, 0, 1]))
        self.assertEqual(told, [[1, 4, 5], [-3], [-7], [0], [0, 1, 0], [0, 1]])

    def test_the_calls_go_by_the_schema_that_is_held(self):
        told = run(
            load("table p { a: number; }"), insert(0, 1, 7), update(0, 1, 1, 0),
            load("table p { a: ref p; b: ref p; }"), row(0, 1), would(0, 1), insert(0, 1, 1, 1), update(0, 1, 1, 1),
            refers(0, 1), delete(0, 1), delete(0, 1),
        )
        self.assertEqual(told[1:], [
            [0], [-7], [0, 1, 2], [1], [1], [0], [0], [0, 2, 0, 1, 0, 0, 1, 1], [0], [1, 1, 0, 1, 0],
        ])

    def test_a_row_that_was_removed_may_be_put_again(self):
        told = run(
            load(EXAMPLE), fill(*ROWS), delete(0, 2), insert(1, 7, 2), insert(0, 2, 0, 2), insert(1, 7, 2),
            update(0, 1, 1, 2), would(0, 2), delete(0, 2), tables(),
        )
        self.assertEqual(told[2:], [
            [0], [1, 3, 1, 7, 0], [0], [0], [0], [0, 2, 0, 2, 1, 7, 1, 0, 1], [0], [0, 1, 1, 5, 0, 0],
        ])

    def test_what_would_tells_goes_by_the_rows_that_are_there_now(self):
        told = run(
            load(HELD), insert(0, 1, 0, 0), would(0, 1), insert(0, 2, 0, 1), would(0, 1), update(0, 2, 1, 0),
            would(0, 1), many(1, [0, 1, 7, 1]), would(0, 1), fill(0, 0), would(0, 1),
        )
        self.assertEqual(told[2::2], [
            [0, 1, 0, 1, 0], [2, 0, 2, 1], [0, 1, 0, 1, 0], [0, 2, 0, 1, 1, 7, 0], [1],
        ])


if __name__ == "__main__":
    unittest.main()
