import itertools
import random

from helpers import NO_CONTENTS, KeptCase, all_cells, cells_apart, shop_schema
from keptbase.areas import Area
from keptbase.conditions import CellIn, KeyIn
from keptbase.differ import difference, differing_cells
from keptbase.questions import Question
from keptbase.rulefeet import rule_footprint, rule_witness
from keptbase.rules import Refers, Unique, Within
from keptbase.schema import Schema, Table
from keptbase.spans import Span
from keptbase.stores import Store
from rulescenes import RULES, WIDE, kept_by_words, stores_of

SHOP = shop_schema()


def turning_cells(rule):
    """The cells in which a store that keeps a rule and one that breaks it differ alone, told from all stores."""
    stores = {tuple(store): store for store in stores_of(rule)}
    kept = {rows: kept_by_words(rule, store) for rows, store in stores.items()}
    found = set()
    for rows, store in stores.items():
        if kept[rows]:
            for table, key, row in store:
                without = tuple(entry for entry in rows if entry[:2] != (table, key))
                if not kept[without]:
                    found.add((table, key, "there"))
            for table, key, field in all_cells(rule.schema):
                if field == "there" and store.row(table, key) is None:
                    found |= {(table, key, "there") for more in rows_of(rule, table) if not kept[tuple(store.put(table, key, more))]}
                elif field != "there" and store.row(table, key) is not None:
                    contents = rule.schema.table_of(table).domain_of(field).listed()
                    if any(not kept[tuple(store.written(table, key, field, content))] for content in contents):
                        found.add((table, key, field))
    return found


def rows_of(rule, table):
    found = rule.schema.table_of(table)
    return itertools.product(*[found.domain_of(column).listed() for column in found.columns])


class RuleFootprints(KeptCase):
    def test_all_cells_of_small_schemas(self):
        empty = 0
        for rule in RULES:
            cells = turning_cells(rule)
            found = rule_footprint(rule)
            self.assertIs(type(found), Area)
            self.assertEqual(found, Area.of(rule.schema, cells))
            empty += not cells
            for cell in all_cells(rule.schema):
                witness = rule_witness(rule, cell)
                self.assertEqual(witness is not None, cell in cells)
                if witness is not None:
                    self.check_witness(rule, cell, witness)
        self.assertGreater(empty, 5)

    def check_witness(self, rule, cell, witness):
        self.assertIs(type(witness), tuple)
        kept, broken = witness
        self.assertTrue(kept_by_words(rule, kept))
        self.assertFalse(kept_by_words(rule, broken))
        self.assertEqual(differing_cells(kept, broken), [cell])

    def test_areas_beside_the_footprint(self):
        """The last sentence of point 93, on all pairs of stores."""
        chance = random.Random(71)
        for rule in [rule for rule in RULES if rule.schema is not WIDE]:
            cells = all_cells(rule.schema)
            pairs = [(set(cells_apart(one, other)), kept_by_words(rule, other))
                     for one in stores_of(rule)[::2] if kept_by_words(rule, one) for other in stores_of(rule)]
            for _ in range(4):
                chosen = chance.sample(cells, chance.randint(0, len(cells)))
                meets = rule_footprint(rule).meets(Area.of(rule.schema, chosen))
                if not meets:
                    self.assertTrue(all(kept for apart, kept in pairs if apart <= set(chosen)))
            beside = Area.whole(rule.schema) - rule_footprint(rule)
            for one, other in zip(stores_of(rule), chance.sample(stores_of(rule), len(stores_of(rule)))):
                if difference(one, other).within(beside):
                    self.assertEqual(kept_by_words(rule, one), kept_by_words(rule, other))

    def test_an_area_that_meets_it_leads_to_a_broken_rule(self):
        for rule in RULES:
            for cell in rule_footprint(rule).cells():
                kept, broken = rule_witness(rule, cell)
                self.assertTrue(difference(kept, broken).within(Area.of(rule.schema, [cell])))

    def test_endless_tables(self):
        count = Question(SHOP, "count", "item", where=KeyIn(Span([(3, None)])) & CellIn("left", Span.of(None, 0)))
        for text, cells in (("0..", ""), ("..-1", ""), ("-4..20", "3.."), ("5", "3.."), ("7..", "3.."), ("nothing", "")):
            found = rule_footprint(Within(count, Span.read(text)))
            self.assertEqual([str(found.span_of("item", field)) for field in ("there", "left", "price")],
                             [cells, cells, "nothing"] if cells else ["nothing"] * 3)
        for text in ("0..20", "20", "13..", "0, 2..19"):
            rule = Within(count, Span.read(text))
            for cell in (("item", 3, "there"), ("item", 10 ** 12, "left"), ("item", 5, "left"), ("item", 2, "there"), ("item", 3, "price")):
                witness = rule_witness(rule, cell)
                self.assertEqual(witness is not None, cell in rule_footprint(rule))
                if witness is not None:
                    self.check_witness(rule, cell, witness)
        unique = rule_footprint(Unique(SHOP, "note", "cents"))
        self.assertEqual([str(unique.span_of("note", field)) for field in ("there", "cents")], ["..", ".."])
        self.assertEqual(unique.touched("item"), Span())
        refers = Refers(SHOP, "note", "cents", "item")
        found = rule_footprint(refers)
        told = [str(found.span_of(*place)) for place in (("note", "there"), ("note", "cents"), ("item", "there"), ("item", "price"))]
        self.assertEqual(told, ["..", "..", "1..", "nothing"])
        for cell in (("note", -5, "there"), ("note", 10 ** 12, "cents"), ("item", 10 ** 12, "there"), ("item", 1, "price")):
            witness = rule_witness(refers, cell)
            self.assertEqual(witness is not None, cell in found)
            if witness is not None:
                self.check_witness(refers, cell, witness)

    def test_number_of_keys_at_which_a_row_can_count(self):
        schema = Schema([Table("a", Span([(1, 9)]), [("x", Span.of(0, 1))])])
        for keys, text, empty in (("1..3", "0..3", True), ("1..3", "0..2", False), ("1..4", "0..3", False), ("1..3", "4..", True),
                                  ("1..3", "3..", False), ("..", "0..9", True), ("..", "0..8", False), ("10..", "0", True), ("10..", "1", True)):
            rule = Within(Question(schema, "count", "a", where=KeyIn(Span.read(keys))), Span.read(text))
            self.assertEqual(bool(rule_footprint(rule)), not empty)
            self.assertEqual(rule_witness(rule, ("a", 2, "there")) is None, empty)

    def test_what_is_no_cell(self):
        rule = Unique(SHOP, "item", "left")
        for cell in (("item", 0, "left"), ("none", 1, "left"), ("item", 1, "none"), ("item", None, "left"), ("note", 1, "there"),
                     *[("item", value, "left") for value in NO_CONTENTS], *[("item", 1, value) for value in NO_CONTENTS]):
            self.assertIsNone(rule_witness(rule, cell))
        self.assertIsNone(rule_witness(Within(Question(SHOP, "count", "item"), Span()), ("item", 1, "there")))
        self.assertIsInstance(rule_witness(rule, ("item", 1, "left"))[0], Store)
