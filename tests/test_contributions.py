import itertools

from helpers import KeptCase, all_sights, rows_of_table, shop_schema
from keptbase.conditions import Always, Both, CellIn, Condition, Either, KeyIn, Not, Unseen
from keptbase.contributions import contributing, contribution, nothing, shown_contents
from keptbase.questions import Question
from keptbase.schema import Schema, Table
from keptbase.sights import Sight, sign_of
from keptbase.spans import Span

SCHEMA = Schema([Table("a", Span([(-2, 2)]), [("x", Span.read("none, -1..1")), ("y", Span.of(None, 0))],
                       [("odd", ["y", "x"])])])
TABLE = SCHEMA.table_of("a")
ROWS = rows_of_table(TABLE)
SHOWN = {"count": [], "some": [], "sum": ["x"], "least": ["x"], "greatest": ["x"], "rows": ["y", "key", "x", "y"],
         "first": ["x", "key"]}
NOTHING = {"count": 0, "sum": 0, "rows": [], "some": False, "least": None, "greatest": None, "first": None}
CONDITIONS = [Always(), Either(), KeyIn(Span.of(0, 1)), CellIn("y", Span.of(0)), Unseen("odd"), Not(Unseen("odd")),
              Both(Unseen("odd"), Either(KeyIn(Span.of(2)), CellIn("x", Span.of(None, 1))))]


def questions():
    return [Question(SCHEMA, kind, "a", SHOWN[kind], where=where) for kind in SHOWN for where in CONDITIONS]


def answer_by_words(question, key, row, sight):
    """The answer on a store of one row, told straight from points 34 and 35."""
    counted = [(key, row)] if question.where.counts(TABLE, key, row, sight) else []
    shown = [tuple({"key": key, "x": row[0], "y": row[1]}[name] for name in question.shown) for key, row in counted]
    integers = [contents[0] for contents in shown if contents and contents[0] is not None]
    return {"count": len(counted), "some": counted != [], "sum": sum(integers), "rows": sorted(shown, key=repr),
            "least": min(integers, default=None), "greatest": max(integers, default=None),
            "first": (counted[0][0], shown[0]) if counted else None}[question.kind]


def sights_for(row):
    return all_sights([sign_of(TABLE, "odd", row)])


class Contributions(KeptCase):
    def test_nothing(self):
        for question in questions():
            found = nothing(question)
            self.assertEqual(found, NOTHING[question.kind])
            self.assertIs(type(found), type(NOTHING[question.kind]))
        rows = Question(SCHEMA, "rows", "a", ["x"])
        nothing(rows).append("more")
        self.assertEqual(nothing(rows), [])

    def test_shown_contents(self):
        cases = [("count", [], ()), ("some", [], ()), ("sum", ["x"], (1,)), ("least", ["y"], (None,)),
                 ("greatest", ["x"], (1,)), ("rows", ["key"], (-2,)), ("rows", ["y", "key", "x", "y"], (None, -2, 1, None)),
                 ("first", ["x", "x"], (1, 1)), ("first", ["key", "y"], (-2, None))]
        for kind, shown, contents in cases:
            found = shown_contents(Question(SCHEMA, kind, "a", shown), -2, (1, None))
            self.assertEqual(found, contents)
            self.assertIs(type(found), tuple)

    def test_contribution(self):
        for question, key, row in itertools.product(questions(), (-2, 0, 2), ROWS):
            for sight in sights_for(row):
                found = contribution(question, key, row, sight)
                expected = answer_by_words(question, key, row, sight)
                self.assertEqual(found, expected)
                self.assertIs(type(found), type(expected))

    def test_each_kind(self):
        cases = [("count", [], 1), ("some", [], True), ("sum", ["x"], -1), ("sum", ["y"], 0), ("least", ["x"], -1),
                 ("least", ["y"], None), ("greatest", ["x"], -1), ("greatest", ["y"], None), ("rows", ["y", "x"], [(None, -1)]),
                 ("first", ["y", "key"], (2, (None, 2)))]
        for kind, shown, found in cases:
            question = Question(SCHEMA, kind, "a", shown)
            self.assertEqual(contribution(question, 2, (-1, None), Sight()), found)

    def test_contributing(self):
        for question, key, row in itertools.product(questions(), (-2, 0, 2), ROWS):
            condition = contributing(question)
            self.assertIsInstance(condition, Condition)
            for sight in sights_for(row):
                contributes = answer_by_words(question, key, row, sight) != NOTHING[question.kind]
                self.assert_is(contributes, condition.counts(TABLE, key, row, sight))

    def test_contributing_has_no_other_unseen_tests(self):
        for question in questions():
            own = [leaf.test for leaf in question.where.leaves() if isinstance(leaf, Unseen)]
            found = [leaf.test for leaf in contributing(question).leaves() if isinstance(leaf, Unseen)]
            self.assertEqual(sorted(set(found)), sorted(set(own)))

    def test_large_contents(self):
        shop = shop_schema()
        question = Question(shop, "sum", "note", ["cents"])
        for content, found in ((10 ** 12, 10 ** 12), (-10 ** 12, -10 ** 12), (0, 0), (None, 0)):
            self.assertEqual(contribution(question, -5, (content,), Sight()), found)
            table = shop.table_of("note")
            self.assert_is(found != 0, contributing(question).counts(table, -5, (content,), Sight()))
