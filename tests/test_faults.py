"""load: the first fault of a text. An @ in these texts marks its place and is taken out."""

import unittest

from tests.calls import EXAMPLE, load, run

RESERVED = ("table", "number", "from", "to", "ref", "none", "cascade", "clear", "unique")
SIGNS = ("-", ":", ";", "{", "}")
NEW_NAME = "zz"
NUMBER = "7"
TOKENS = RESERVED + SIGNS + (NEW_NAME, NUMBER)

# What may stand behind the beginning of a text.
WANTED = {
    "": ("table",),
    "table": (NEW_NAME,),
    "table p": ("{",),
    "table p {": ("}", NEW_NAME),
    "table p { a": (":",),
    "table p { a :": ("number", "ref"),
    "table p { a : number": ("from", "unique", ";"),
    "table p { a : number from": ("-", NUMBER),
    "table p { a : number from -": (NUMBER,),
    "table p { a : number from 1": ("to",),
    "table p { a : number from - 1": ("to",),
    "table p { a : number from 1 to": ("-", NUMBER),
    "table p { a : number from - 9 to -": (NUMBER,),
    "table p { a : number from 1 to 2": ("unique", ";"),
    "table p { a : number unique": (";",),
    "table p { a : ref": (NEW_NAME,),
    "table p { a : ref p": ("none", "cascade", "unique", ";"),
    "table p { a : ref p none": ("cascade", "clear", "unique", ";"),
    "table p { a : ref p cascade": ("unique", ";"),
    "table p { a : ref p none cascade": ("unique", ";"),
    "table p { a : ref p none clear": ("unique", ";"),
    "table p { a : ref p unique": (";",),
    "table p { a : ref p none clear unique": (";",),
    "table p { a : number ;": ("}", NEW_NAME),
    "table p { a : ref p ;": ("}", NEW_NAME),
    "table p { }": ("table",),
}
MAY_END = ("", "table p { }")

FOUR_TABLES = "table a { } table b { } table c { } table d { } "
FOUR_COLUMNS = "table p { a: number; b: number; c: number; d: number; "


class Faults(unittest.TestCase):
    def has_fault(self, kind, marked):
        self.assertEqual(marked.count("@"), 1, marked)
        text = marked.replace("@", "")
        self.assertEqual(run(load(text)), [[1, kind, marked.index("@")]], marked)

    def is_good(self, text):
        self.assertEqual(run(load(text))[0][0], 0, text)

    def test_1_a_byte_that_begins_no_token(self):
        for sign in "_AZ\"'!$()*+,./<=>?[]^`|~\v\f\0\x7f":
            self.has_fault(1, "@" + sign)
            self.has_fault(1, "table p @" + sign + " { }")
        for byte in (0, 8, 11, 12, 14, 31, 64, 127, 128, 160, 255):
            self.assertEqual(run(load([32, byte])), [[1, 1, 1]])

    def test_1_straight_behind_a_token(self):
        self.has_fault(1, "table p@A { }")
        self.has_fault(1, "table p { a: number from 1@_ to 2; }")
        self.has_fault(1, "table p { a: number from 1@.5 to 2; }")

    def test_2_words_of_more_than_12_bytes(self):
        self.has_fault(2, "table @abcdefghijklm { }")
        self.has_fault(2, "table @a___________9 { }")
        self.has_fault(2, "table @" + "a" * 4000)
        self.has_fault(2, "@tablenumberfrom")
        self.has_fault(2, "table p { a: ref @abcdefghijklm; }")
        self.is_good("table abcdefghijkl { }")

    def test_2_numbers(self):
        for digits in ("00", "01", "007", "0000000", "1000001", "9999999", "10000000", "12345678", "9" * 4000):
            self.has_fault(2, "table p { a: number from @" + digits + " to 5; }")
            self.has_fault(2, "table p { a: number from -@" + digits + " to 5; }")
            self.has_fault(2, "table p { a: number from 0 to @" + digits + "; }")
        self.is_good("table p { a: number from 999999 to 1000000; }")

    def test_what_may_stand_and_what_may_not(self):
        for start, wanted in WANTED.items():
            for token in TOKENS:
                place = len(start) + 1
                answer = run(load(start + " " + token))[0]
                if token in wanted:
                    self.assertIn(answer, ([1, 4, place + len(token)], [0, 1, 0], [0, 1, 1]), start + " " + token)
                elif token == "clear" and start == "table p { a : ref p":
                    self.assertEqual(answer, [1, 8, place])
                else:
                    self.assertEqual(answer, [1, 3, place], start + " " + token)

    def test_1_and_2_count_wherever_all_before_them_may_stand(self):
        for start in WANTED:
            self.has_fault(1, start + " @_")
            self.has_fault(2, start + " @abcdefghijklm")
            self.has_fault(2, start + " @01")

    def test_4_wherever_something_is_still_wanted(self):
        for start in WANTED:
            if start in MAY_END:
                self.is_good(start)
                self.is_good(start + " # more\n ")
            else:
                self.has_fault(4, start + "@")
                self.has_fault(4, start + " \n# more@")

    def test_3_words_that_are_no_names(self):
        for word in RESERVED:
            self.has_fault(3, "table @" + word + " { }")
            self.has_fault(3, "table p { @" + word + ": number; }")
            self.has_fault(3, "table p { a: ref @" + word + "; }")

    def test_3_an_earlier_unfit_token_goes_ahead_of_later_faults(self):
        self.has_fault(3, "table p @p _ 01")
        self.has_fault(3, "table p { a: ref z @number; }")
        self.has_fault(3, "@p")

    def test_5_the_word_table_of_a_fifth_table(self):
        self.is_good(FOUR_TABLES)
        self.has_fault(5, FOUR_TABLES + "@table")
        self.has_fault(5, FOUR_TABLES + "@table a _")
        self.has_fault(5, FOUR_TABLES + "#\n @table { 01")

    def test_5_is_not_told_of_what_begins_no_table(self):
        self.has_fault(3, FOUR_TABLES + "@p")
        self.has_fault(3, FOUR_TABLES + "@}")
        self.has_fault(1, FOUR_TABLES + "@_")
        self.has_fault(2, FOUR_TABLES + "@tablenumberfrom")
        self.has_fault(3, FOUR_TABLES + "@tables")

    def test_5_at_whatever_would_begin_a_fifth_column(self):
        self.is_good(FOUR_COLUMNS + "}")
        for token in TOKENS + ("e: number;", "a: number;", "_", "A", "\0", "01", "1000001", "abcdefghijklm", ""):
            if token != "}":
                self.has_fault(5, FOUR_COLUMNS + "@" + token)
                self.has_fault(5, FOUR_COLUMNS + "# more }\n@" + token)
        self.has_fault(5, FOUR_COLUMNS + "# }@")

    def test_5_counts_the_columns_of_each_table_alone(self):
        self.has_fault(5, FOUR_COLUMNS + "} " + FOUR_COLUMNS.replace("p", "q") + "@e: number; }")
        self.is_good(FOUR_COLUMNS + "} table q { a: number; }")

    def test_6_names_that_an_earlier_one_has(self):
        self.has_fault(6, "table p { } table @p { }")
        self.has_fault(6, "table p { } table q { } table @p")
        self.has_fault(6, "table p { a: number; @a: number; }")
        self.has_fault(6, "table p { a: number; b: ref p; @a _")
        self.has_fault(6, "table q { b: number; } table p { a: number; b: number; @b: number; }")
        self.is_good("table p { p: number; } table q { p: number; }")

    def test_7_only_if_there_is_no_other(self):
        self.has_fault(7, "table p { a: ref @q; }")
        self.has_fault(7, "table p { a: ref p; b: ref @a; c: ref z; }")
        self.has_fault(7, "table p { a: ref @y; } table q { a: ref x; b: ref q; }")
        self.has_fault(7, "table p { a: ref @pp none clear unique; }")
        self.has_fault(4, "table p { a: ref q; @")
        self.has_fault(3, "table p { a: ref q; } @}")
        self.has_fault(1, "table p { a: ref q; } @_")
        self.has_fault(8, "table p { a: ref q; b: number from 1 to @0; }")
        self.is_good("table p { a: ref q; } table q { }")

    def test_8_a_range_whose_second_number_is_less(self):
        self.has_fault(8, "table p { a: number from 1 to @0; }")
        self.has_fault(8, "table p { a: number from 0 to @-1; }")
        self.has_fault(8, "table p { a: number from -5 to @-6; }")
        self.has_fault(8, "table p { a: number from -5 to @- # six\n 6; }")
        self.has_fault(8, "table p { a: number from 1000000 to @999999; }")
        self.has_fault(8, "table p { a: number from 1 to @0")
        self.has_fault(8, "table p { a: number from 1 to @-0 _")

    def test_8_is_looked_at_when_the_second_number_has_been_read(self):
        self.has_fault(4, "table p { a: number from 1 to -@")
        self.has_fault(3, "table p { a: number from 1 to - @; }")
        self.has_fault(2, "table p { a: number from 1 to - @00; }")
        self.has_fault(1, "table p { a: number from 1 to -@_; }")

    def test_8_clear_where_none_is_not_allowed(self):
        self.has_fault(8, "table p { a: ref p @clear; }")
        self.has_fault(8, "table p { a: ref p @clear none; }")
        self.has_fault(8, "table p { a: ref z @clear _")
        self.has_fault(3, "table p { a: ref p cascade @clear; }")
        self.has_fault(3, "table p { a: ref p unique @clear; }")
        self.has_fault(3, "table p { a: number @clear; }")
        self.is_good("table p { a: ref p none clear; }")

    def test_every_cut_of_the_example_between_two_tokens(self):
        pieces = EXAMPLE.replace(":", " :").replace(";", " ;").split()
        for count in range(len(pieces)):
            text = " ".join(pieces[:count])
            if text == "" or (text.endswith("}") and pieces[count] == "table"):
                self.is_good(text)
            else:
                self.has_fault(4, text + "@")

    def test_the_earlier_of_two_faults_is_told(self):
        self.has_fault(1, "@_ 01")
        self.has_fault(2, "@01 _")
        self.has_fault(6, "table p { } table @p { a: number from 1 to 0; }")
        self.has_fault(8, "table p { a: number from 1 to @0; a: number; }")
        self.has_fault(5, FOUR_COLUMNS + "@a: number; } _")


if __name__ == "__main__":
    unittest.main()
