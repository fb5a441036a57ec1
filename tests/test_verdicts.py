"""Verdicts, checks and layers that break a rule together, against all stores of small schemas."""

import random

from helpers import NO_CONTENTS, KeptCase, shop_schema
from keptbase.areas import Area
from keptbase.checks import check_stores, checks
from keptbase.conditions import CellIn, KeyIn
from keptbase.errors import CommonPlace, NoSuchTable
from keptbase.footprints import footprint
from keptbase.jointly import break_together
from keptbase.layers import Layer
from keptbase.looks import look
from keptbase.questions import Question
from keptbase.rulefeet import rule_footprint
from keptbase.rules import Refers, Unique, Within
from keptbase.schema import Schema, Table, fields_of
from keptbase.spans import Span
from keptbase.stores import Store
from keptbase.verdicts import untouched_keys, verdict
from rulescenes import FULL, REFER, RULES, TINY, kept_by_words, random_layers, stores_of

SHOP = shop_schema()
ITEM = Table("item", Span([(1, None)]), [("price", Span([(0, 99)]))])
SALES = Schema([ITEM, Table("sale", Span([(1, 9)]), [("of", Span([(1, 50)]))])])


def fitted(rule, layer):
    """The stores that keep a rule and that a layer fits, each with whether it leads them to one that keeps it."""
    return [(store, kept_by_words(rule, layer.lead(store))) for store in stores_of(rule)
            if layer.fits(store) and kept_by_words(rule, store)]


def verdict_by_words(found):
    led = {kept for _, kept in found}
    return {(): "void", (True,): "keeps", (False,): "breaks"}.get(tuple(led), "asks")


def kind_of(rule):
    return type(rule).__name__


def place_area(layer):
    """All cells at the places of a layer."""
    return Area(layer.schema, [(table, field, Span.of(key)) for table, key in layer.places()
                               for field in fields_of(layer.schema.table_of(table))])


class Verdicts(KeptCase):
    def test_random_layers_on_all_stores(self):
        chance, seen, asking = random.Random(81), set(), set()
        for rule in RULES:
            for layer in [Layer(rule.schema), *random_layers(chance, rule, 12 if kind_of(rule) == "Within" else 150)]:
                found = fitted(rule, layer)
                told = verdict(rule, layer)
                self.assertEqual(told, verdict_by_words(found))
                seen.add((kind_of(rule), told))
                asking.add((kind_of(rule), tuple(check.question.table for check in checks(rule, layer))))
                self.check_checks(rule, layer, told, found)
                self.check_check_stores(rule, layer, told)
        kinds = ("void", "keeps", "breaks", "asks")
        self.assertEqual(seen, {(kind, told) for kind in ("Within", "Unique", "Refers") for told in kinds})
        self.assertLessEqual({("Refers", tables) for tables in (("u",), ("t",), ("u", "t"))}, asking)

    def check_checks(self, rule, layer, told, found):
        """Points 98 and 99."""
        listed = checks(rule, layer)
        self.assertIs(type(listed), list)
        self.assertEqual(listed != [], told == "asks")
        for check in listed:
            self.assertIs(type(check), Within)
            self.assertEqual(check.schema, rule.schema)
            area = footprint(check.question)
            self.assertTrue(area.within(rule_footprint(rule)))
            self.assertFalse(area.meets(place_area(layer)))
            self.assertFalse(look(check.question, layer))
        if listed:
            for store, kept in found:
                self.assertEqual(all(kept_by_words(check, store) for check in listed), kept)

    def check_check_stores(self, rule, layer, told):
        stores, listed = check_stores(rule, layer), checks(rule, layer)
        self.assertIs(type(stores), list)
        self.assertEqual(len(stores), {"void": 0, "keeps": 1, "breaks": 1, "asks": 1 + len(listed)}[told])
        for at, store in enumerate(stores):
            self.assertTrue(kept_by_words(rule, store) and layer.fits(store))
            self.assertEqual([kept_by_words(check, store) for check in listed], [number != at - 1 for number in range(len(listed))])

    def test_spans_of_checks(self):
        count = Question(SHOP, "count", "item", where=CellIn("left", Span.of(0)))
        layer = Layer(SHOP, [("item", 1, (5, 3), (5, 0)), ("item", 2, None, (1, 0)), ("item", 3, (1, 0), None)])
        found = checks(Within(count, Span.read("1..3, 9")), layer)
        self.assertEqual([str(check.span) for check in found], ["0..1, 7"])
        store = Store(SHOP, [("item", key, (0, key % 2)) for key in range(1, 10)])
        self.assertEqual(found[0].failure(store), (3,))
        self.assertEqual(verdict(Within(count, Span([(0, None)])), layer), "keeps")
        self.assertEqual(verdict(Within(count, Span.read("..0")), layer), "void")
        self.assertEqual(verdict(Within(count, Span.of(5)), layer), "breaks")
        self.assertEqual(verdict(Within(count, Span([(None, 5)])), layer), "asks")

    def test_unique(self):
        rule = Unique(SHOP, "item", "left")
        put = Layer(SHOP, [("item", 1, None, (5, 3)), ("item", 2, (1, None), (1, 4))])
        found = checks(rule, put)
        self.assertEqual([(check.question.table, str(check.span)) for check in found], [("item", "0")])
        rows = [("item", 7, (0, 3)), ("item", 8, (0, 4)), ("item", 9, (0, 5))]
        self.assertEqual(found[0].failure(Store(SHOP, rows)), (2,))
        self.assertEqual(verdict(rule, Layer(SHOP, [("item", 1, (5, 3), None), ("item", 2, (1, 3), None)])), "void")
        self.assertEqual(verdict(rule, Layer(SHOP, [("item", 1, None, (5, 3)), ("item", 2, (1, 4), (1, 3))])), "breaks")
        swap = Layer(SHOP, [("item", 1, (5, 3), (5, 4)), ("item", 2, (5, 4), (5, 3))])
        self.assertEqual((verdict(rule, swap), checks(rule, swap), check_stores(rule, swap)), ("keeps", [], [swap.old.as_store()]))
        self.assertEqual(verdict(rule, Layer(SHOP, [("item", 1, (5, 3), (5, None))])), "keeps")

    def test_worked_example(self):
        rule = Refers(SALES, "sale", "of", "item")
        found = checks(rule, Layer(SALES, [("item", 4, (7,), None), ("sale", 2, None, (6,))]))
        told = [len(found), found[0].question.table, str(found[0].span), found[1].question.table, str(found[1].span)]
        self.assertEqual(told, [2, "item", "1", "sale", "0"])

    def test_refers(self):
        rule = Refers(SALES, "sale", "of", "item")
        for changes, told, many in (([("sale", 1, None, (6,)), ("sale", 2, None, (7,)), ("sale", 3, None, (6,))], "asks", [2]),
                                    ([("sale", 1, None, (6,)), ("item", 6, None, (0,))], "keeps", []),
                                    ([("sale", 1, None, (6,)), ("item", 6, (0,), None)], "breaks", []),
                                    ([("sale", 1, (6,), None), ("item", 6, None, (0,))], "void", []),
                                    ([("item", 51, (6,), None)], "keeps", []), ([("item", 50, (6,), None)], "asks", [0]),
                                    ([("item", 6, (6,), (7,))], "keeps", []),
                                    ([("sale", key, (1,), None) for key in range(1, 10)] + [("item", 1, (0,), None)], "keeps", [])):
            layer = Layer(SALES, changes)
            self.assertEqual((verdict(rule, layer), [check.span.nearest(0) for check in checks(rule, layer)]), (told, many))
            self.check_check_stores(rule, layer, told)

    def test_empty_layers(self):
        for rule in RULES:
            keeping = [store for store in stores_of(rule) if kept_by_words(rule, store)]
            self.assertEqual(verdict(rule, Layer(rule.schema)), "keeps" if keeping else "void")
            self.assertEqual(len(check_stores(rule, Layer(rule.schema))), 1 if keeping else 0)

    def test_large_layers(self):
        """As many places as point 0.4 lets a layer have, and ends of a span of 20."""
        rule = Within(Question(SHOP, "count", "item", where=KeyIn(Span([(1, 40)]))), Span([(0, 20)]))
        layer = Layer(SHOP, [("item", key, (0, 0), None) for key in range(1, 13)])
        self.assertEqual([verdict(rule, layer), verdict(rule, -layer)], ["keeps", "asks"])
        found = check_stores(rule, -layer)
        self.assertEqual([rule.kept_on((-layer).lead(store)) for store in found], [True, False])
        wide = Within(Question(SHOP, "count", "note"), Span([(0, 20)]))
        stores = check_stores(wide, Layer(SHOP, [("note", key, None, (1,)) for key in range(-6, 6)]))
        self.assertEqual([store.size for store in stores], [0, 9])

    def test_untouched_keys(self):
        layer = Layer(SHOP, [("item", 3, None, (5, 3)), ("item", 5, (1, None), None), ("note", 0, (1,), (2,))])
        self.assertEqual([str(untouched_keys(layer, table)) for table in ("item", "note")], ["1..2, 4, 6..", "..-1, 1.."])
        self.assertEqual(str(untouched_keys(Layer(SHOP), "item")), "1..")
        every = Layer(TINY, [("b", 5, None, (1,))])
        self.assertEqual(untouched_keys(every, "b"), Span())
        for wrong in ("none", None, *NO_CONTENTS, 3):
            self.assert_error(NoSuchTable, {"table": wrong}, untouched_keys, layer, wrong)


class Jointly(KeptCase):
    def test_random_pairs_on_all_stores(self):
        chance, seen = random.Random(82), set()
        for rule in RULES:
            layers = random_layers(chance, rule, 30)
            layers = sorted([layer for layer in layers if layer], key=lambda layer: layer.size)[:12]
            for first in layers:
                for second in layers:
                    if set(first.places()) & set(second.places()):
                        self.check_common_place(rule, first, second)
                    else:
                        found = break_together(rule, first, second)
                        expected = [store for store in stores_of(rule) if self.breaks(rule, first, second, store)]
                        self.assertEqual(found is not None, bool(expected))
                        seen.add((kind_of(rule), found is not None))
                        if found is not None:
                            self.assertIn(found, expected)
                            self.check_asks(rule, first, second)
        self.assertEqual(seen, {(kind, told) for kind in ("Within", "Unique", "Refers") for told in (True, False)})

    def breaks(self, rule, first, second, store):
        """Whether two layers break a rule together on a store, told straight from point 100."""
        if not (first.fits(store) and second.fits(store) and kept_by_words(rule, store)):
            return False
        alone = kept_by_words(rule, first.lead(store)) and kept_by_words(rule, second.lead(store))
        return alone and not kept_by_words(rule, first.lead(second.lead(store)))

    def check_asks(self, rule, first, second):
        """Whether each layer asks and is seen through a check of the other one."""
        for one, other in ((first, second), (second, first)):
            self.assertEqual(verdict(rule, one), "asks")
            self.assertTrue(any(look(check.question, other) for check in checks(rule, one)))

    def check_common_place(self, rule, first, second):
        table, key = [place for place in first.places() if place in second.places()][0]
        self.assert_error(CommonPlace, {"table": table, "key": key}, break_together, rule, first, second)

    def test_each_kind(self):
        refers = Refers(SALES, "sale", "of", "item")
        gone, sold = Layer(SALES, [("item", 6, (0,), None)]), Layer(SALES, [("sale", 1, None, (6,))])
        found = break_together(refers, gone, sold)
        self.assertEqual(list(found), [("item", 6, (0,))])
        self.assertEqual(list(break_together(refers, sold, gone)), [("item", 6, (0,))])
        self.assertIsNone(break_together(refers, -gone, sold))
        unique = Unique(SHOP, "item", "left")
        one, other = Layer(SHOP, [("item", 1, None, (5, 3))]), Layer(SHOP, [("item", 2, (9, None), (9, 3))])
        self.assertEqual(list(break_together(unique, one, other)), [("item", 2, (9, None))])
        self.assertIsNone(break_together(unique, one, -other))
        # The old content of one layer is the new one of the other: alone it would be there twice.
        self.assertIsNone(break_together(unique, one, Layer(SHOP, [("item", 2, (9, 3), None)])))

    def test_counts_at_the_ends_of_a_span(self):
        count = Question(SHOP, "count", "item")
        one, other = Layer(SHOP, [("item", 1, None, (5, 3))]), Layer(SHOP, [("item", 2, (9, None), None)])
        more = Layer(SHOP, [("item", 3, None, (5, 3)), ("item", 4, None, (5, 3))])
        for text, second, together in (("0..5", more, True), ("0..2", more, True), ("0..1", more, False), ("0..3", other, False), ("1..", other, False),
                                       ("0..20", more, True), ("0, 1, 3", more, False), ("0..1, 4", one, None)):
            rule = Within(count, Span.read(text))
            if together is None:
                self.check_common_place(rule, one, second)
            else:
                found = break_together(rule, one, second)
                self.assertEqual(found is not None, together)
                if found is not None:
                    self.assertTrue(self.breaks(rule, one, second, found))
        fewer = Layer(SHOP, [("item", 5, (1, 1), None)])
        found = break_together(Within(count, Span.read("3..")), other, fewer)
        self.assertEqual((found.size, self.breaks(Within(count, Span.read("3..")), other, fewer, found)), (4, True))
        held = Within(Question(SHOP, "count", "item", where=KeyIn(Span([(1, 3)]))), Span([(2, None)]))
        self.assertIsNone(break_together(held, Layer(SHOP, [("item", 1, (5, 3), None)]), Layer(SHOP, [("item", 2, (5, 3), None), ("item", 3, (5, 3), None)])))

    def test_empty_layers(self):
        for rule in (Refers(FULL, "t", "c", "u"), Unique(TINY, "a", "x"), Within(Question(REFER, "count", "t"), Span.of(0))):
            self.assertIsNone(break_together(rule, Layer(rule.schema), Layer(rule.schema)))

    def test_common_places(self):
        rule = Within(Question(SHOP, "count", "item"), Span())
        first = Layer(SHOP, [("note", 5, None, (1,)), ("item", 9, (5, 3), None), ("note", -2, None, (1,)), ("item", 2, (5, 3), None)])
        second = Layer(SHOP, [("note", 5, None, (1,)), ("item", 9, None, (5, 3)), ("note", -2, None, (1,)), ("item", 3, None, (5, 3))])
        self.assert_error(CommonPlace, {"table": "item", "key": 9}, break_together, rule, first, second)
        self.assert_error(CommonPlace, {"table": "note", "key": -2}, break_together, rule, first.inner(Span.numbers(), "note"), second)
