import itertools

from helpers import NO_CONTENTS, EqualToAll, KeptCase
from keptbase.errors import (InvalidColumns, InvalidDomain, InvalidKeySpan, InvalidName, InvalidView, NoSuchColumn,
                             NoSuchTable, NoSuchTest)
from keptbase.schema import Schema, Table, is_name
from keptbase.spans import Span

NAMES = ["a", "z9", "abcdefghijkl", "x2y4z6a8b0c1"]
NO_NAMES = [*NO_CONTENTS, None, 0, 5, "A", "aB", "9a", "0", "_a", "a_b", "a b", " a", "a ", "a\n", "a-b", "a.b",
            "abcdefghijklm", "\u00e9", "a\u00e9", "a\u0661", b"a", ["a"], ("a",)]
NUMBERS = Span.numbers()


def table(name="t", key_span=NUMBERS, columns=(("x", NUMBERS), ("y", NUMBERS)), tests=()):
    return Table(name, key_span, columns, tests)


class Names(KeptCase):
    def test_is_name(self):
        for value in NAMES:
            self.assert_is(True, is_name(value))
        for value in NO_NAMES:
            self.assert_is(False, is_name(value))
        self.assert_is(True, is_name("key"))
        self.assert_is(True, is_name("there"))


class Tables(KeptCase):
    def test_attributes(self):
        domains = [Span.of(None, 1), Span([(0, None)]), Span.everything()]
        made = Table("stock", Span([(-5, 9)]), [("b", domains[0]), ("a", domains[1]), ("c", domains[2])],
                     [("odd", ["a", "b"]), ("all", ("c", "a", "b")), ("key", ["c"]), ("b", ["b"])])
        self.assertEqual((made.name, made.key_span), ("stock", Span([(-5, 9)])))
        self.assertEqual((made.columns, made.tests), (("b", "a", "c"), ("odd", "all", "key", "b")))
        self.assertEqual([made.domain_of(column) for column in ("b", "a", "c")], domains)
        self.assertEqual([made.position_of(column) for column in ("b", "a", "c")], [0, 1, 2])
        views = [made.view_of(test) for test in made.tests]
        self.assertEqual(views, [("a", "b"), ("c", "a", "b"), ("c",), ("b",)])
        for value in (made.columns, made.tests, *views):
            self.assertIs(type(value), tuple)
        self.assertEqual((Table.MOST_COLUMNS, Table.MOST_VIEW, made.MOST_COLUMNS), (4, 3, 4))

    def test_lists_are_copied(self):
        columns, view = [("x", NUMBERS), ("y", NUMBERS)], ["y", "x"]
        tests = [("odd", view)]
        made = Table("t", NUMBERS, columns, tests)
        columns.append(("z", NUMBERS))
        tests.clear()
        view.append("x")
        self.assertEqual((made.columns, made.tests, made.view_of("odd")), (("x", "y"), ("odd",), ("y", "x")))
        self.assertEqual(made, Table("t", NUMBERS, (("x", NUMBERS), ("y", NUMBERS)), (("odd", ("y", "x")),)))

    def test_invalid_names(self):
        for name in NO_NAMES:
            self.assert_error(InvalidName, {"name": name}, table, name)
            self.assert_error(InvalidName, {"name": name}, table, "t", NUMBERS, [("x", NUMBERS), (name, NUMBERS)])
            self.assert_error(InvalidName, {"name": name}, table, tests=[("odd", ["x"]), (name, ["y"])])

    def test_column_names(self):
        for name in ("key", "there"):
            self.assert_error(InvalidName, {"name": name}, table, columns=[("x", NUMBERS), (name, NUMBERS)])
        self.assert_error(InvalidName, {"name": "x"}, table, columns=[("x", NUMBERS), ("y", NUMBERS), ("x", NUMBERS)])
        self.assertEqual(table("key").name, "key")

    def test_test_names_are_different(self):
        self.assert_error(InvalidName, {"name": "odd"}, table, tests=[("odd", ["x"]), ("there", ["x"]), ("odd", ["y"])])

    def test_key_span(self):
        for span in (Span(), Span.of(None), Span.everything(), Span.of(None, 4)):
            self.assert_error(InvalidKeySpan, {"table": "t"}, table, "t", span)
        self.assertEqual(table("t", Span.of(-7)).key_span, Span.of(-7))

    def test_number_of_columns(self):
        five = [(name, NUMBERS) for name in "abcde"]
        for columns in ([], (), five):
            self.assert_error(InvalidColumns, {"table": "t"}, table, columns=columns)
        self.assertEqual(table(columns=five[:4]).columns, ("a", "b", "c", "d"))

    def test_domains_have_two_contents(self):
        for domain in (Span(), Span.of(3), Span.of(None)):
            self.assert_error(InvalidDomain, {"column": "y"}, table, columns=[("x", NUMBERS), ("y", domain)])
        for domain in (Span.of(None, 3), Span.of(3, 4), Span([(None, 2)]), Span.of(-1, 1)):
            self.assertEqual(table(columns=[("x", domain)]).domain_of("x"), domain)

    def test_views(self):
        columns = [(name, NUMBERS) for name in "abcd"]
        for view in ([], (), ["a", "a"], ["a", "b", "c", "d"], ["a", "e"], ["key"], ["there"], [None], [["a"]],
                     ["a", 1], [EqualToAll()], ["a", "b", "a"], "a", None, 1, *[[value] for value in NO_CONTENTS]):
            self.assert_error(InvalidView, {"test": "bad"}, table, columns=columns, tests=[("ok", ["a"]), ("bad", view)])
        for view in itertools.permutations("abcd", 3):
            self.assertEqual(table(columns=columns, tests=[("ok", list(view))]).view_of("ok"), view)

    def test_which_error_comes_first(self):
        self.assert_error(InvalidName, {"name": "T"}, table, "T", Span(), [], [("O", [])])
        self.assert_error(InvalidKeySpan, {"table": "t"}, table, "t", Span(), [], [("O", [])])
        self.assert_error(InvalidColumns, {"table": "t"}, table, "t", NUMBERS, [], [("O", [])])
        self.assert_error(InvalidColumns, {"table": "t"}, table, "t", NUMBERS, [("X", Span())] * 5)
        self.assert_error(InvalidDomain, {"column": "x"}, table, "t", NUMBERS, [("x", Span()), ("Y", NUMBERS)])
        self.assert_error(InvalidName, {"name": "X"}, table, "t", NUMBERS, [("X", Span()), ("y", Span())])
        self.assert_error(InvalidName, {"name": "x"}, table, "t", NUMBERS, [("x", NUMBERS), ("x", Span())])
        self.assert_error(InvalidDomain, {"column": "y"}, table, "t", NUMBERS, [("x", NUMBERS), ("y", Span())],
                          [("O", [])])
        self.assert_error(InvalidView, {"test": "odd"}, table, tests=[("odd", []), ("odd", ["x"])])
        self.assert_error(InvalidName, {"name": "O"}, table, tests=[("O", [])])

    def test_no_such_column_or_test(self):
        made = table(tests=[("odd", ["x"])])
        for name in [*NO_NAMES, "odd", "z", "key", "there", ""]:
            self.assert_error(NoSuchColumn, {"column": name}, made.domain_of, name)
            self.assert_error(NoSuchColumn, {"column": name}, made.position_of, name)
        for name in [*NO_NAMES, "x", "z", ""]:
            self.assert_error(NoSuchTest, {"test": name}, made.view_of, name)

    def test_equality(self):
        views = [("odd", ["x", "y"]), ("low", ["x"])]
        made = table(tests=views)
        self.assertTrue(made == table(tests=views))
        self.assertFalse(made != table(tests=views))
        two = Span.of(0, 1)
        others = [table("u", tests=views), table(key_span=Span([(1, None)]), tests=views),
                  table(columns=[("x", NUMBERS), ("z", NUMBERS)], tests=[("odd", ["x", "z"]), ("low", ["x"])]),
                  table(columns=[("y", NUMBERS), ("x", NUMBERS)], tests=views),
                  table(columns=[("x", NUMBERS), ("y", two)], tests=views), table(tests=views[::-1]), table(),
                  table(tests=[("odd", ["y", "x"]), ("low", ["x"])]), table(tests=[("odd", ["x", "y"]), ("lot", ["x"])])]
        for other in [*others, *NO_CONTENTS, None, "t", Schema([made])]:
            self.assertFalse(made == other)


class Schemas(KeptCase):
    def test_tables(self):
        tables = [table("b"), table("a"), table("c1")]
        schema = Schema(tables)
        tables.append(table("d"))
        self.assertEqual(schema.tables, ("b", "a", "c1"))
        self.assertIs(type(schema.tables), tuple)
        self.assertEqual([found.name for found in schema], ["b", "a", "c1"])
        self.assertEqual([schema.table_of(name).name for name in "ab"], ["a", "b"])
        self.assertEqual([schema.index_of(name) for name in ("b", "a", "c1")], [0, 1, 2])
        self.assertEqual((Schema([]).tables, list(Schema(()))), ((), []))

    def test_repeated_name(self):
        tables = [table("a"), table("b"), table("b"), table("a")]
        self.assert_error(InvalidName, {"name": "b"}, Schema, tables)

    def test_no_such_table(self):
        schema = Schema([table("a")])
        for name in [*NO_NAMES, "b", "x", ""]:
            self.assert_error(NoSuchTable, {"table": name}, schema.table_of, name)
            self.assert_error(NoSuchTable, {"table": name}, schema.index_of, name)

    def test_equality(self):
        first, second = table("a"), table("b")
        self.assertTrue(Schema([first, second]) == Schema((table("a"), table("b"))))
        others = [Schema([second, first]), Schema([first]), Schema([]), Schema([first, second, table("c")]),
                  Schema([first, table("b", Span.of(1))])]
        for other in [*others, *NO_CONTENTS, None, first, ("a", "b")]:
            self.assertFalse(Schema([first, second]) == other)
