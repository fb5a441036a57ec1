import itertools

from helpers import NO_CONTENTS, KeptCase, rows_of_table, tiny_schema
from keptbase.conditions import Always, Both, CellIn, Either, KeyIn, Not, Unseen
from keptbase.errors import InvalidKind, InvalidShown, NoSuchColumn, NoSuchTable, NoSuchTest
from keptbase.questions import Question
from keptbase.sights import Sight
from keptbase.spans import Span

TINY = tiny_schema()
KINDS = ("count", "sum", "rows", "some", "least", "greatest", "first")
SHOWN = {"count": [], "some": [], "sum": ["x"], "least": ["y"], "greatest": ["x"], "rows": ["y", "key", "y"],
         "first": ["key"]}
NO_KINDS = ["", "Count", "median", "all", None, 0, *NO_CONTENTS]
NO_TABLES = ["", "c", None, 0, *NO_CONTENTS]
NO_NAMES = ["", "z", "there", "odd", None, 0, *NO_CONTENTS]


class Making(KeptCase):
    def test_attributes(self):
        for kind in KINDS:
            where = KeyIn(Span.of(0))
            question = Question(TINY, kind, "a", SHOWN[kind], where=where)
            self.assertIs(question.schema, TINY)
            self.assertEqual((question.kind, question.table, question.shown), (kind, "a", tuple(SHOWN[kind])))
            self.assertIs(type(question.shown), tuple)
            self.assertIs(question.where, where)
            self.assertIs(type(Question(TINY, kind, "a", tuple(SHOWN[kind])).where), Always)
            self.assertIs(type(Question(TINY, kind, "a", SHOWN[kind], where=None).where), Always)
        self.assertEqual(Question(TINY, "count", "b").shown, ())

    def test_lists_are_copied(self):
        shown = ["x", "key"]
        question = Question(TINY, "rows", "a", shown)
        shown.append("y")
        self.assertEqual(question.shown, ("x", "key"))

    def test_kinds(self):
        self.assertEqual(Question.HEAPING, ("count", "sum", "rows"))
        self.assertEqual(Question.COVERING, ("some", "least", "greatest", "first"))
        self.assertIsInstance(vars(Question)["heaping"], property)
        for kind in KINDS:
            self.assert_is(kind in ("count", "sum", "rows"), Question(TINY, kind, "a", SHOWN[kind]).heaping)

    def test_invalid_kind(self):
        for kind in NO_KINDS:
            self.assert_error(InvalidKind, {"kind": kind}, Question, TINY, kind, "c", ["z"], where=Unseen("z"))

    def test_no_such_table(self):
        for kind, table in itertools.product(KINDS, NO_TABLES):
            self.assert_error(NoSuchTable, {"table": table}, Question, TINY, kind, table, ["z", "z"], where=Unseen("z"))

    def test_number_of_shown_names(self):
        for kind in KINDS:
            for many in range(5):
                allowed = many == 0 if kind in ("count", "some") else many == 1
                if kind in ("rows", "first"):
                    allowed = many >= 1
                if allowed:
                    self.assertEqual(Question(TINY, kind, "a", ["x"] * many).shown, ("x",) * many)
                else:
                    told = {"shown": ("z",) * many}
                    self.assert_error(InvalidShown, told, Question, TINY, kind, "a", ["z"] * many, where=Unseen("z"))

    def test_which_names_are_shown(self):
        for name in NO_NAMES:
            for kind in ("sum", "least", "greatest"):
                self.assert_error(NoSuchColumn, {"column": name}, Question, TINY, kind, "a", [name], where=Unseen("z"))
            for kind in ("rows", "first"):
                shown = ["key", "x", name, "z", "x"]
                self.assert_error(NoSuchColumn, {"column": name}, Question, TINY, kind, "a", shown, where=Unseen("z"))
        for kind in ("sum", "least", "greatest"):
            self.assert_error(NoSuchColumn, {"column": "key"}, Question, TINY, kind, "a", ["key"])
        self.assert_error(NoSuchColumn, {"column": "y"}, Question, TINY, "sum", "b", ["y"])
        for kind in ("rows", "first"):
            self.assertEqual(Question(TINY, kind, "a", ["key", "x", "key", "x"]).shown, ("key", "x", "key", "x"))

    def test_leaves_of_the_condition(self):
        for name in ["key", *NO_NAMES]:
            where = Either(Always(), Both(CellIn("x", Span()), Not(CellIn(name, Span())), Unseen("z")))
            self.assert_error(NoSuchColumn, {"column": name}, Question, TINY, "count", "a", where=where)
        for name in ["x", "", "z", None, *NO_CONTENTS]:
            where = Either(Always(), Both(Unseen("odd"), Unseen(name), CellIn("z", Span())))
            self.assert_error(NoSuchTest, {"test": name}, Question, TINY, "count", "a", where=where)
        self.assert_error(NoSuchTest, {"test": "odd"}, Question, TINY, "count", "b", where=Unseen("odd"))


class Narrowing(KeptCase):
    def test_narrowed(self):
        for kind in KINDS:
            where, condition = Unseen("odd") | CellIn("x", Span.of(0)), KeyIn(Span.of(0))
            question = Question(TINY, kind, "a", SHOWN[kind], where=where)
            narrowed = question.narrowed(condition)
            self.assertIs(type(narrowed), Question)
            self.assertIs(narrowed.schema, TINY)
            self.assertEqual((narrowed.kind, narrowed.table, narrowed.shown), (kind, "a", tuple(SHOWN[kind])))
            self.assertIs(type(narrowed.where), Both)
            self.assertEqual([id(part) for part in narrowed.where.parts], [id(where), id(condition)])
            self.assertIs(question.where, where)

    def test_which_rows_count(self):
        table = TINY.table_of("a")
        where, condition = CellIn("x", Span.of(0)), KeyIn(Span.of(0))
        narrowed = Question(TINY, "count", "a", where=where).narrowed(condition)
        for key, row in itertools.product((-1, 0), rows_of_table(table)):
            self.assert_is(row[0] == 0 and key == 0, narrowed.where.counts(table, key, row, Sight()))

    def test_errors(self):
        question = Question(TINY, "count", "a", where=Unseen("odd"))
        self.assert_error(NoSuchColumn, {"column": "z"}, question.narrowed, Both(CellIn("z", Span()), Unseen("z")))
        self.assert_error(NoSuchTest, {"test": "z"}, question.narrowed, Both(Unseen("z"), CellIn("z", Span())))
