"""answers: the one list of calls, the list given back, and the document's example."""

import unittest

from tablerulesdesk.keeper import answers
from tests.calls import (
    EXAMPLE, broken, delete, fill, insert, load, many, refers, row, run, tables, text_written, update, would, written,
)

CALLS = (
    load(EXAMPLE), fill(2, 1, 5, 0, 2, 5, 1, 1, 7, 2), insert(0, 3, 10, 0), insert(1, 8, 2), insert(1, 8, 4),
    insert(1, 8, 1), would(0, 2), would(0, 1), delete(0, 1), tables(),
    many(0, [0, 1, 9, 3, 0, 0, 3, 5, 0]), many(1, [0, 1, 9, 3, 0, 0, 3, 5, 0]), refers(0, 2),
)
TOLD = [
    [0, 2, 3], [0], [1, 2, 0, 3, 0], [1, 4, 1, 8, 0], [1, 3, 1, 8, 0],
    [0], [0, 2, 0, 2, 1, 7, 0], [0, 2, 0, 1, 1, 8, 1, 0, 2], [0], [0, 1, 2, 5, 0, 1, 7, 2],
    [1, 0, 3, 1, 9, 0], [0, 2], [0, 1, 1, 7, 0],
]
# What may be called behind the example, with its answer: each call of the interface is here or there.
MORE_CALLS = (
    broken(1, 1, 10, 9, 1, 7, 3), update(0, 3, 0, 9, 1, 3), row(0, 3), row(0, 1), tables(), update(1, 9, 0, 2),
    written(),
)
MORE_TOLD = [
    [0, 2, 2, 0, 1, 0, 3, 1, 7, 0], [0], [0, 9, 3], [1], [0, 2, 2, 5, 0, 3, 9, 3, 2, 7, 2, 9, 3], [1, 4, 1, 9, 0],
    [0] + list(b"table p {\n  age: number from 0 to 9;\n  boss: ref p none clear;\n}\n"
               b"table q {\n  of: ref p cascade unique;\n}\n"),
]


def joined(lists):
    return [number for numbers in lists for number in numbers]


class Answers(unittest.TestCase):
    def test_the_example(self):
        self.assertEqual(run(*CALLS), TOLD)

    def test_the_example_as_one_list(self):
        told = answers(joined(CALLS))
        self.assertEqual(told, joined([[len(answer)] + answer for answer in TOLD]))
        self.assertEqual(told[:6], [3, 0, 2, 3, 1, 0])
        self.assertEqual({number.__class__ for number in told}, {int})
        self.assertEqual(told.__class__, list)

    def test_the_example_call_by_call(self):
        for count in range(1, len(CALLS) + 1):
            self.assertEqual(run(*CALLS[:count]), TOLD[:count])

    def test_more_calls_behind_the_example(self):
        self.assertEqual(run(*(CALLS + MORE_CALLS)), TOLD + MORE_TOLD)
        self.assertEqual({call[0] for call in CALLS + MORE_CALLS}, set(range(12)))
        told = answers(joined(CALLS + MORE_CALLS))
        self.assertEqual(told, joined([[len(answer)] + answer for answer in TOLD + MORE_TOLD]))
        self.assertEqual({number.__class__ for number in told}, {int})

    def test_a_refusal_is_its_number_alone(self):
        self.assertEqual(answers(load([256]) + load([32] * 4097) + fill(0) + broken(0)), [1, -1, 1, -2, 1, -4, 1, -4])
        calls = load("table p { }") + insert(1, 0) + insert(0, 0) + insert(0, 1, 0)
        self.assertEqual(answers(calls), [3, 0, 1, 0, 1, -3, 1, -5, 1, -7])
        calls = update(0, 1) + delete(0, 1) + would(0, 1) + refers(0, 1) + row(0, 1) + many(2) + many(0, [0])
        self.assertEqual(answers(calls), [1, -3, 1, -3, 1, -3, 1, -3, 1, -3, 1, -8, 1, -7])
        calls = load("table p { }") + update(0, 0) + delete(0, 0) + would(0, 0) + refers(0, 0) + row(0, 0)
        self.assertEqual(answers(calls), [3, 0, 1, 0, 1, -5, 1, -5, 1, -5, 1, -5, 1, -5])

    def test_the_values_of_row_have_no_count(self):
        calls = load("table p { a: number; b: number; }") + insert(0, 1, -7, 8) + row(0, 1) + row(0, 2)
        self.assertEqual(answers(calls), [3, 0, 1, 2, 1, 0, 3, 0, -7, 8, 1, 1])

    def test_the_bytes_of_written_have_no_count(self):
        self.assertEqual(answers(load("table p{}") + [1]), [3, 0, 1, 0, 13, 0] + list(b"table p {\n}\n"))

    def test_the_same_list_gives_the_same(self):
        calls = joined(CALLS + MORE_CALLS)
        self.assertEqual(answers(calls), answers(calls))

    def test_each_list_is_of_a_new_object(self):
        answers(joined(CALLS))
        self.assertEqual(answers([4, 1]), [1, 0, 1, 0])
        self.assertEqual(answers([11, 0, 2, 9, 0, 2]), [1, -3, 1, -3])

    def test_the_list_handed_in_stays_as_it_is(self):
        calls = joined(CALLS + MORE_CALLS)
        before = list(calls)
        answers(calls)
        self.assertEqual(calls, before)

    def test_what_is_given_back_is_the_callers(self):
        calls = joined(CALLS)
        told = answers(calls)
        told.clear()
        self.assertEqual(answers(calls), joined([[len(answer)] + answer for answer in TOLD]))

    def test_a_hundred_calls(self):
        told = run(*([load(EXAMPLE)] + [insert(0, row_id, 0, 0) for row_id in range(1, 99)] + [tables()]))
        self.assertEqual(told[1:9], [[0]] * 8)
        self.assertEqual(told[9:99], [[1, 6, 0, row_id, 0] for row_id in range(9, 99)])
        self.assertEqual(told[99][:2], [0, 8])

    def test_long_texts(self):
        text = EXAMPLE + "#" + "x" * (4095 - len(EXAMPLE))
        self.assertEqual(len(text), 4096)
        told = run(load(text), load("-" * 4096), load("a" * 4096), load("#\n" * 2048), written())
        self.assertEqual(told[:4], [[0, 2, 3], [1, 3, 0], [1, 2, 0], [0, 0, 0]])
        self.assertEqual(text_written(told[4]), "")


if __name__ == "__main__":
    unittest.main()
