"""load: its refusals, its tokens, the texts that are schemas, and what is held behind it."""

import unittest

from tests.calls import EXAMPLE, fill, insert, load, run, tables, text_written, written

BIG = 10 ** 18


def one_column(kind):
    return "table p { a: " + kind + "; }"


class Refusals(unittest.TestCase):
    def test_each_number_is_a_byte(self):
        for number in (-1, 256, BIG, -BIG):
            self.assertEqual(run(load([number])), [[-1]])
            self.assertEqual(run(load([32, number, 32])), [[-1]])
        self.assertEqual(run(load([35, 255, 0, 128])), [[0, 0, 0]])

    def test_at_most_4096_bytes(self):
        self.assertEqual(run(load([32] * 4096)), [[0, 0, 0]])
        self.assertEqual(run(load([32] * 4097)), [[-2]])
        self.assertEqual(run(load([32] * 5000)), [[-2]])

    def test_no_byte_is_told_ahead_of_too_long(self):
        self.assertEqual(run(load([32] * 4096 + [256])), [[-1]])
        self.assertEqual(run(load([-1] + [32] * 4999)), [[-1]])

    def test_too_long_is_told_ahead_of_a_fault(self):
        self.assertEqual(run(load([0] + [32] * 4096)), [[-2]])

    def test_the_place_of_a_fault_may_be_4096(self):
        text = "table p {" + " " * 4087
        self.assertEqual(len(text), 4096)
        self.assertEqual(run(load(text)), [[1, 4, 4096]])


class GoodTexts(unittest.TestCase):
    def counts(self, text):
        answer = run(load(text))[0]
        self.assertEqual(answer[0], 0, text)
        return answer[1:]

    def test_tables_and_columns_are_counted(self):
        self.assertEqual(self.counts(""), [0, 0])
        self.assertEqual(self.counts("table p { }"), [1, 0])
        self.assertEqual(self.counts(EXAMPLE), [2, 3])
        columns = "a: number; b: number; c: number; d: number;"
        text = "".join("table " + name + " {" + columns + "} " for name in "abcd")
        self.assertEqual(self.counts(text), [4, 16])

    def test_blanks_and_remarks_part_tokens_and_mean_nothing(self):
        self.assertEqual(self.counts(" \t\r\n"), [0, 0])
        self.assertEqual(self.counts("# table"), [0, 0])
        self.assertEqual(self.counts("#"), [0, 0])
        self.assertEqual(self.counts("#\n#\n"), [0, 0])
        self.assertEqual(self.counts("table#}\np#:\n{#A#_\r@\n}#"), [1, 0])
        self.assertEqual(self.counts("\ttable\rp\n{\t}\r"), [1, 0])

    def test_a_remark_ends_at_a_line_feed_alone(self):
        self.assertEqual(self.counts("# one\rtable p { }"), [0, 0])
        self.assertEqual(self.counts("# one\ntable p { }"), [1, 0])

    def test_nothing_need_stand_between_tokens_of_other_kinds(self):
        self.assertEqual(self.counts("table p{a:number from-1to 2unique;b:ref p none clear unique;}"), [1, 2])

    def test_words_of_12_bytes(self):
        self.assertEqual(self.counts("table abcdefghijkl { a1_2_3_4_5_6: ref abcdefghijkl; }"), [1, 1])

    def test_names_that_hold_or_begin_like_other_words(self):
        text = "table tables { to_: number; fromx: number; ref1: ref tables; no: number; }"
        self.assertEqual(self.counts(text), [1, 4])

    def test_a_column_may_be_called_like_a_table_or_one_of_another_table(self):
        self.assertEqual(self.counts("table p { p: number; q: number; } table q { p: number; q: ref p; }"), [2, 4])

    def test_references_to_any_table_of_the_text(self):
        self.assertEqual(self.counts("table p { a: ref q; b: ref p; } table q { a: ref p; }"), [2, 3])

    def test_numbers(self):
        for number in ("0", "1", "9", "10", "999999", "1000000", "-0", "-1", "-1000000", "- 5", "-#\n5"):
            text = one_column("number from -1000000 to " + number)
            self.assertEqual(self.counts(text), [1, 1])

    def test_ranges_of_one_number_and_of_more(self):
        for ends in ("5 to 5", "-5 to -5", "0 to -0", "-0 to 0", "-5 to -4", "-5 to 5", "-1000000 to 1000000"):
            self.assertEqual(self.counts(one_column("number from " + ends)), [1, 1])

    def test_each_form_of_a_reference(self):
        for form in ("", " none", " cascade", " none cascade", " none clear"):
            self.assertEqual(self.counts(one_column("ref p" + form)), [1, 1])
            self.assertEqual(self.counts(one_column("ref p" + form + " unique")), [1, 1])


class WhatIsHeld(unittest.TestCase):
    held = "table p {\n  a: number;\n}\n"

    def test_an_object_has_no_tables_at_its_beginning(self):
        self.assertEqual(run(written(), tables(), fill(), insert(0, 1)), [[0], [0], [0], [-3]])

    def test_a_refused_or_faulty_text_leaves_all_as_it_was(self):
        wrong = ([256], [32] * 4097, "table q {", "table", "table q { a: ref z; }", "table q { } _", "1")
        for text in wrong:
            told = run(load(self.held), fill(1, 7, 5), load(text), written(), tables())
            self.assertNotEqual(told[2][0], 0)
            self.assertEqual(text_written(told[3]), self.held)
            self.assertEqual(told[4], [0, 1, 7, 5])

    def test_a_good_text_leaves_tables_without_rows(self):
        told = run(load(self.held), fill(1, 7, 5), load(self.held), tables())
        self.assertEqual(told, [[0, 1, 1], [0], [0, 1, 1], [0, 0]])
        told = run(load(self.held), fill(1, 7, 5), load(EXAMPLE), tables(), load(""), tables(), written())
        self.assertEqual(told[2:], [[0, 2, 3], [0, 0, 0], [0, 0, 0], [0], [0]])


if __name__ == "__main__":
    unittest.main()
