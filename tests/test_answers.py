"""answers: the one list of calls, the list given back, and the document's example."""

import unittest

from tablerulesdesk.keeper import answers
from tests.calls import EXAMPLE, broken, fill, insert, load, run, tables, text_written, written

CALLS = (
    load(EXAMPLE), fill(2, 1, 5, 0, 2, 5, 1, 1, 7, 2), insert(0, 3, 10, 0), insert(1, 8, 2), insert(1, 8, 4),
    insert(1, 8, 1), tables(), broken(1, 1, 10, 9, 1, 7, 3),
)
TOLD = [
    [0, 2, 3], [0], [1, 2, 0, 3, 0], [1, 4, 1, 8, 0], [1, 3, 1, 8, 0],
    [0], [0, 2, 1, 5, 0, 2, 5, 1, 2, 7, 2, 8, 1], [0, 2, 2, 0, 1, 0, 3, 1, 7, 0],
]


def joined(lists):
    return [number for numbers in lists for number in numbers]


class Answers(unittest.TestCase):
    def test_the_example(self):
        self.assertEqual(run(*CALLS), TOLD)

    def test_the_example_as_one_list(self):
        told = answers(joined(CALLS))
        self.assertEqual(told, joined([[len(answer)] + answer for answer in TOLD]))
        self.assertEqual(told[:6], [3, 0, 2, 3, 1, 0])
        self.assertEqual({number.__class__ for number in told}, {int})
        self.assertEqual(told.__class__, list)

    def test_a_refusal_is_its_number_alone(self):
        self.assertEqual(answers(load([256]) + load([32] * 4097) + fill(0) + broken(0)), [1, -1, 1, -2, 1, -4, 1, -4])
        calls = load("table p { }") + insert(1, 0) + insert(0, 0) + insert(0, 1, 0)
        self.assertEqual(answers(calls), [3, 0, 1, 0, 1, -3, 1, -5, 1, -7])

    def test_the_bytes_of_written_have_no_count(self):
        self.assertEqual(answers(load("table p{}") + [1]), [3, 0, 1, 0, 13, 0] + list(b"table p {\n}\n"))

    def test_the_same_list_gives_the_same(self):
        calls = joined(CALLS)
        self.assertEqual(answers(calls), answers(calls))

    def test_each_list_is_of_a_new_object(self):
        answers(joined(CALLS))
        self.assertEqual(answers([4, 1]), [1, 0, 1, 0])

    def test_the_list_handed_in_stays_as_it_is(self):
        calls = joined(CALLS)
        before = list(calls)
        answers(calls)
        self.assertEqual(calls, before)

    def test_what_is_given_back_is_the_callers(self):
        calls = joined(CALLS)
        told = answers(calls)
        told.clear()
        self.assertEqual(answers(calls), joined([[len(answer)] + answer for answer in TOLD]))

    def test_a_hundred_calls(self):
        told = run(*([load(EXAMPLE)] + [insert(0, row_id, 0, 0) for row_id in range(1, 99)] + [tables()]))
        self.assertEqual(told[1:9], [[0]] * 8)
        self.assertEqual(told[9:99], [[1, 6, 0, row_id, 0] for row_id in range(9, 99)])
        self.assertEqual(told[99][:2], [0, 8])

    def test_long_texts(self):
        text = EXAMPLE + "#" + "x" * (4095 - len(EXAMPLE))
        self.assertEqual(len(text), 4096)
        told = run(load(text), load("-" * 4096), load("a" * 4096), load("#\n" * 2048), written())
        self.assertEqual(told[:4], [[0, 2, 3], [1, 3, 0], [1, 2, 0], [0, 0, 0]])
        self.assertEqual(text_written(told[4]), "")


if __name__ == "__main__":
    unittest.main()
