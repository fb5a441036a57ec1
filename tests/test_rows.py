from collections import namedtuple

from helpers import NO_CONTENTS, KeptCase, rows_of_table, tiny_schema
from keptbase.errors import InvalidContent, NoSuchColumn
from keptbase.rows import changed_columns, is_row, picked, replaced, row_text
from keptbase.schema import Table
from keptbase.spans import Span

NO_COLUMNS = ["z", "key", "there", "", "X", None, 0, *NO_CONTENTS]


class Rows(KeptCase):
    def setUp(self):
        columns = [("x", Span.of(None, 1, 2)), ("y", Span([(-3, None)])), ("z2", Span.everything())]
        self.table = Table("t", Span.numbers(), columns)

    def test_is_row(self):
        for row in [(None, -3, None), (1, 0, -5), (2, 10 ** 12, 10 ** 12), namedtuple("Row", "a b c")(1, 2, 3)]:
            self.assert_is(True, is_row(self.table, row))
        for value in [None, 1, (), (1, 1), (1, 1, 1, 1), [1, 1, 1], (3, 1, 1), (1, None, 1), (1, -4, 1),
                      (True, 1, 1), (1, 1, False), (1.0, 1, 1), ("1", 1, 1), *NO_CONTENTS,
                      *[(1, 1, value) for value in NO_CONTENTS]]:
            self.assert_is(False, is_row(self.table, value))

    def test_picked(self):
        row = (1, 5, None)
        cases = [([], ()), (["y"], (5,)), (["z2", "x"], (None, 1)), (("x", "x", "y"), (1, 1, 5))]
        for columns, contents in cases:
            self.assertEqual(picked(self.table, row, columns), contents)
            self.assertIs(type(picked(self.table, row, columns)), tuple)

    def test_replaced(self):
        row = (1, 5, None)
        self.assertEqual(replaced(self.table, row, "x", None), (None, 5, None))
        self.assertEqual(replaced(self.table, row, "y", 10 ** 12), (1, 10 ** 12, None))
        self.assertEqual(replaced(self.table, row, "z2", -1), (1, 5, -1))
        self.assertEqual(replaced(self.table, row, "y", 5), row)
        self.assertEqual(row, (1, 5, None))

    def test_no_such_column(self):
        for name in NO_COLUMNS:
            self.assert_error(NoSuchColumn, {"column": name}, picked, self.table, (1, 5, None), ["x", name, "v"])
            self.assert_error(NoSuchColumn, {"column": name}, replaced, self.table, (1, 5, None), name, True)

    def test_invalid_content(self):
        for value in [*NO_CONTENTS, 0, 3]:
            self.assert_error(InvalidContent, {"value": value}, replaced, self.table, (1, 5, None), "x", value)
        for value in [*NO_CONTENTS, None, -4]:
            self.assert_error(InvalidContent, {"value": value}, replaced, self.table, (1, 5, None), "y", value)

    def test_changed_columns(self):
        cases = [((1, 5, None), (1, 5, None), []), ((1, 5, None), (2, 5, 0), ["x", "z2"]),
                 ((None, 5, 1), (1, 6, 2), ["x", "y", "z2"]), ((1, 5, 1), (1, 6, 1), ["y"])]
        for old, new, columns in cases:
            self.assertEqual(changed_columns(self.table, old, new), columns)
            self.assertEqual(changed_columns(self.table, new, old), columns)

    def test_changed_columns_and_replaced(self):
        table = tiny_schema().table_of("a")
        for old in rows_of_table(table):
            for new in rows_of_table(table):
                row = old
                for column in changed_columns(table, old, new):
                    self.assertNotEqual(picked(table, old, [column]), picked(table, new, [column]))
                    row = replaced(table, row, column, picked(table, new, [column])[0])
                self.assertEqual(row, new)

    def test_row_text(self):
        cases = [((1,), "1"), ((None, -5, 10 ** 12), "none -5 1000000000000"), ((0, None), "0 none")]
        for row, text in cases:
            self.assertEqual(row_text(row), text)
