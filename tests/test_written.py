"""written: the one form of a schema's text."""

import unittest

from tests.calls import EXAMPLE, load, run, text_written, written

LINES = {
    "number": "number",
    "number from -1000000 to 1000000": "number",
    "number from - 1000000 to 1000000 unique": "number unique",
    "number from -1000000 to 999999": "number from -1000000 to 999999",
    "number from -999999 to 1000000": "number from -999999 to 1000000",
    "number from 0 to 9": "number from 0 to 9",
    "number from -0 to 0 unique": "number from 0 to 0 unique",
    "number from - 7 to -\n7": "number from -7 to -7",
    "number unique": "number unique",
    "ref p": "ref p",
    "ref p unique": "ref p unique",
    "ref q none": "ref q none",
    "ref q cascade": "ref q cascade",
    "ref p none cascade unique": "ref p none cascade unique",
    "ref q none clear": "ref q none clear",
    "ref#\nq\tnone#\nclear\runique": "ref q none clear unique",
}


class Written(unittest.TestCase):
    def form_of(self, text):
        """The one form of a good text; it's checked that it's its own one form."""
        form = text_written(run(load(text), written())[1])
        self.assertEqual(text_written(run(load(form), written())[1]), form)
        return form

    def test_each_kind_of_column(self):
        for kind, told in LINES.items():
            text = "table p{a:" + kind + ";}table q{}"
            self.assertEqual(self.form_of(text), "table p {\n  a: " + told + ";\n}\ntable q {\n}\n")

    def test_tables_and_columns_keep_their_order(self):
        text = "table z { c: number; a: ref b; } table b { } table a { x1_: ref z; }"
        form = "table z {\n  c: number;\n  a: ref b;\n}\ntable b {\n}\ntable a {\n  x1_: ref z;\n}\n"
        self.assertEqual(self.form_of(text), form)

    def test_the_schema_without_tables_is_the_empty_text(self):
        self.assertEqual(run(written()), [[0]])
        self.assertEqual(self.form_of(" # nothing"), "")

    def test_the_example(self):
        form = (
            "table p {\n  age: number from 0 to 9;\n  boss: ref p none clear;\n}\n"
            "table q {\n  of: ref p cascade unique;\n}\n"
        )
        self.assertEqual(self.form_of(EXAMPLE), form)

    def test_the_largest_schema(self):
        name = "abcdefghijk"
        column = ": number from -1000000 to -1000000 unique;"
        columns = "".join(name + end + column for end in "wxyz")
        text = "".join("table " + name + end + "{" + columns + "}" for end in "wxyz")
        self.assertEqual(self.form_of(text).count("\n"), 24)


if __name__ == "__main__":
    unittest.main()
