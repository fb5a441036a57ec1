import random

from helpers import NO_CONTENTS, KeptCase, shop_schema, tiny_schema
from keptbase.conditions import Always, CellIn, KeyIn, Unseen
from keptbase.errors import InvalidBounds, InvalidCount, NoSuchColumn, NoSuchTable, SameTable
from keptbase.questions import Question
from keptbase.rules import Refers, Rule, Unique, Within
from keptbase.schema import Schema, Table
from keptbase.spans import Span
from keptbase.stores import Store
from rulescenes import RULES, kept_by_words, stores_of

SHOP = shop_schema()
TINY = tiny_schema()
COUNT = Question(SHOP, "count", "item")
BOTH = Schema([Table("sale", Span([(1, 9)]), [("of", Span([(1, 50)], has_none=True)), ("cents", Span.numbers())]),
               Table("item", Span([(1, None)]), [("price", Span([(0, 99)]))])])


class Rules(KeptCase):
    def test_kept_on_all_stores(self):
        for rule in RULES:
            self.assertIsInstance(rule, Rule)
            for store in stores_of(rule):
                kept = kept_by_words(rule, store)
                self.assert_is(kept, rule.kept_on(store))
                failure = rule.failure(store)
                self.assertEqual(failure is None, kept)
                if failure is not None:
                    self.assertIs(type(failure), tuple)
                    self.check_failure(rule, store, failure)

    def check_failure(self, rule, store, failure):
        """Whether a failure is the first one by point 92."""
        if isinstance(rule, Within):
            table = rule.schema.table_of(rule.question.table)
            counted = [key for key, row in store.listed_rows(table.name) if rule.question.where.counts(table, key, row, None)]
            self.assertEqual(failure, (len(counted),))
            return
        at = rule.schema.table_of(rule.table).columns.index(rule.column)
        pairs = [(key, row[at]) for key, row in store.listed_rows(rule.table) if row[at] is not None]
        if isinstance(rule, Unique):
            twice = sorted((content, key, other) for key, content in pairs for other, again in pairs if key < other and content == again)
            self.assertEqual(failure, twice[0])
        else:
            self.assertEqual(failure, [(key, content) for key, content in pairs if content not in dict(store.listed_rows(rule.target))][0])

    def test_attributes(self):
        within = Within(COUNT, Span([(0, 3)]))
        self.assertEqual((within.schema, within.question, within.span), (SHOP, COUNT, Span([(0, 3)])))
        unique = Unique(SHOP, "item", "left")
        self.assertEqual((unique.schema, unique.table, unique.column), (SHOP, "item", "left"))
        refers = Refers(SHOP, "item", "price", "note")
        self.assertEqual((refers.schema, refers.table, refers.column, refers.target), (SHOP, "item", "price", "note"))

    def test_failures_in_larger_stores(self):
        rows = [("sale", 3, (7, 0)), ("sale", 1, (None, 0)), ("sale", 9, (4, 5)), ("sale", 5, (7, 5)), ("sale", 2, (None, 5)), ("item", 7, (0,))]
        chance = random.Random(1)
        for _ in range(5):
            store = Store(BOTH, chance.sample(rows, len(rows)))
            self.assertEqual(Unique(BOTH, "sale", "of").failure(store), (7, 3, 5))
            self.assertEqual(Unique(BOTH, "sale", "cents").failure(store), (0, 1, 3))
            self.assertEqual(Refers(BOTH, "sale", "of", "item").failure(store), (9, 4))
            self.assertEqual(Refers(BOTH, "item", "price", "sale").failure(store), (7, 0))
            self.assertEqual(Within(Question(BOTH, "count", "sale"), Span([(0, 4)])).failure(store), (5,))
        self.assertIsNone(Refers(BOTH, "sale", "of", "item").failure(store.without("sale", 9)))
        three = Store(BOTH, [("sale", key, (8, key % 2)) for key in (9, 6, 2)])
        self.assertEqual(Unique(BOTH, "sale", "of").failure(three), (8, 2, 6))

    def test_empty_store(self):
        store = Store(SHOP)
        self.assertEqual([Within(COUNT, Span.read(text)).failure(store) for text in ("0", "0..", "1..", "..-1", "nothing", "..")],
                         [None, None, (0,), (0,), (0,), None])
        self.assertIsNone(Unique(SHOP, "item", "left").failure(store))
        self.assertIsNone(Refers(SHOP, "item", "price", "note").failure(store))

    def test_ends_of_a_span(self):
        rule = Within(COUNT, Span.read("2..3, 20"))
        for many in range(22):
            store = Store(SHOP, [("item", key, (0, None)) for key in range(1, many + 1)])
            self.assertEqual(rule.failure(store), None if many in (2, 3, 20) else (many,))

    def test_invalid_counts(self):
        others = [Question(TINY, "some", "a"), Question(TINY, "sum", "a", ["x"]), Question(TINY, "rows", "a", ["x"]),
                  Question(TINY, "least", "a", ["x"]), Question(TINY, "greatest", "a", ["x"]), Question(TINY, "first", "a", ["x"]),
                  Question(TINY, "count", "a", where=Unseen("low")), Question(TINY, "count", "a", where=~(Always() & ~Unseen("odd")) | KeyIn(Span()))]
        for question in others:
            for span in (Span(), Span.everything()):
                self.assert_error(InvalidCount, {"question": question}, Within, question, span)
        question = Question(TINY, "count", "a", where=CellIn("x", Span.of(None)))
        self.assert_error(InvalidBounds, {"span": Span.everything()}, Within, question, Span.everything())
        self.assert_error(InvalidBounds, {"span": Span.of(None)}, Within, question, Span.of(None))
        self.assertEqual(Within(question, Span()).span, Span())

    def test_no_such_table_or_column(self):
        for wrong in ("none", "", "Item", None, *NO_CONTENTS, 3):
            self.assert_error(NoSuchTable, {"table": wrong}, Unique, SHOP, wrong, "left")
            self.assert_error(NoSuchTable, {"table": wrong}, Unique, SHOP, wrong, wrong)
            self.assert_error(NoSuchTable, {"table": wrong}, Refers, SHOP, wrong, wrong, wrong)
            self.assert_error(NoSuchColumn, {"column": wrong}, Unique, SHOP, "item", wrong)
            self.assert_error(NoSuchColumn, {"column": wrong}, Refers, SHOP, "item", wrong, "none")
            self.assert_error(NoSuchTable, {"table": wrong}, Refers, SHOP, "item", "left", wrong)
        for word in ("key", "there", "cents"):
            self.assert_error(NoSuchColumn, {"column": word}, Unique, SHOP, "item", word)
            self.assert_error(NoSuchColumn, {"column": word}, Refers, SHOP, "item", word, "item")

    def test_same_table(self):
        self.assert_error(SameTable, {"table": "item"}, Refers, SHOP, "item", "left", "item")
        self.assert_error(SameTable, {"table": "note"}, Refers, SHOP, "note", "cents", "note")
