import itertools
import random

from helpers import NO_CONTENTS, EqualToAll, KeptCase, all_cells, shop_schema, tiny_schema
from keptbase.areas import Area
from keptbase.errors import Endless, InvalidField, InvalidKey, NoSuchTable
from keptbase.schema import Schema, Table
from keptbase.spans import Span

SHOP = shop_schema()
TINY = tiny_schema()
NO_TABLES = ["", "shop", None, 0, *NO_CONTENTS]
NO_KEYS = [0, -1, None, *NO_CONTENTS]
NO_FIELDS = ["", "key", "cents", "There", None, 0, *NO_CONTENTS]


def some_cell_lists():
    chance = random.Random(2)
    cells = all_cells(TINY)
    found = [[], cells]
    while len(found) < 45:
        found.append([cell for cell in cells if chance.random() < chance.choice([0.2, 0.5, 0.8])])
    return found


class MakingAreas(KeptCase):
    def test_normal_form(self):
        entries = [("note", "cents", Span.of(4)), ("item", "left", Span.of(1, 2)), ("item", "there", Span.of(9)),
                   ("item", "left", Span.of(3)), ("item", "price", Span()), ("note", "there", Span([(None, 0)])),
                   ("item", "left", Span.of(2, 7))]
        normal = [("item", "there", Span.of(9)), ("item", "left", Span.read("1..3, 7")),
                  ("note", "there", Span.read("..0")), ("note", "cents", Span.of(4))]
        chance = random.Random(3)
        for _ in range(60):
            chance.shuffle(entries)
            area = Area(SHOP, list(entries))
            self.assertEqual(list(area), normal)
            self.assertEqual(area, Area(SHOP, tuple(entries)))
            self.assertIs(area.schema, SHOP)

    def test_contents_outside_of_the_key_span_are_left_out(self):
        area = Area(SHOP, [("item", "left", Span.everything()), ("item", "there", Span.read("none, ..0")),
                           ("item", "price", Span.read("none, -4..2"))])
        self.assertEqual(list(area), [("item", "price", Span.of(1, 2)), ("item", "left", Span([(1, None)]))])

    def test_entries_are_copied(self):
        entries = [("item", "left", Span.of(1))]
        area = Area(SHOP, entries)
        entries.append(("item", "left", Span.of(2)))
        self.assertEqual(list(area), [("item", "left", Span.of(1))])
        self.assertEqual((list(Area(SHOP)), list(Area(SHOP, [])), Area(SHOP).size), ([], [], 0))

    def test_errors(self):
        good = ("item", "left", Span.of(1))
        for table in NO_TABLES:
            self.assert_error(NoSuchTable, {"table": table}, Area, SHOP, [good, (table, "no field", Span())])
        for field in NO_FIELDS:
            told = {"table": "item", "field": field}
            self.assert_error(InvalidField, told, Area, SHOP, [good, ("item", field, Span()), ("x", "y", Span())])

    def test_of(self):
        cells = [("note", 0, "cents"), ("item", 3, "left"), ("item", 1, "left"), ("item", 3, "left"), ("item", 2, "there")]
        area = Area.of(SHOP, cells)
        self.assertEqual(list(area), [("item", "there", Span.of(2)), ("item", "left", Span.of(1, 3)),
                                      ("note", "cents", Span.of(0))])
        self.assertEqual(Area.of(SHOP, ()), Area(SHOP))
        good = ("item", 1, "left")
        for table in NO_TABLES:
            self.assert_error(NoSuchTable, {"table": table}, Area.of, SHOP, [good, (table, 0, "no field")])
        for key in NO_KEYS:
            told = {"table": "item", "key": key}
            self.assert_error(InvalidKey, told, Area.of, SHOP, [good, ("item", key, "no field"), ("x", 1, "there")])
        for field in NO_FIELDS:
            told = {"table": "item", "field": field}
            self.assert_error(InvalidField, told, Area.of, SHOP, [good, ("item", 2, field), ("item", 0, "left")])

    def test_whole(self):
        every = [("item", "there", Span.read("1..")), ("item", "price", Span.read("1..")),
                 ("item", "left", Span.read("1..")), ("note", "there", Span.numbers()), ("note", "cents", Span.numbers())]
        self.assertEqual(list(Area.whole(SHOP)), every)
        self.assertEqual(Area.whole(TINY).cells(), all_cells(TINY))
        self.assertEqual(Area.whole(Schema([])), Area(Schema([])))
        for name in ("of", "whole"):
            self.assertIsInstance(vars(Area)[name], classmethod)


class Areas(KeptCase):
    def test_cells_and_size(self):
        for cells in some_cell_lists():
            area = Area.of(TINY, cells[::-1])
            self.assertEqual(area.cells(), cells)
            self.assertEqual(area.size, len(cells))
            self.assert_is(bool(cells), bool(area))
            for cell in all_cells(TINY):
                self.assert_is(cell in cells, cell in area)

    def test_order_of_cells(self):
        area = Area(SHOP, [("note", "there", Span.of(-2)), ("item", "left", Span.of(1, 3)), ("item", "there", Span.of(1, 3)),
                           ("item", "price", Span.of(2, 3))])
        cells = [("item", 1, "there"), ("item", 1, "left"), ("item", 2, "price"), ("item", 3, "there"),
                 ("item", 3, "price"), ("item", 3, "left"), ("note", -2, "there")]
        self.assertEqual(area.cells(), cells)
        area.cells().clear()
        self.assertEqual(area.cells(), cells)

    def test_endless(self):
        for span in (Span.read("5.."), Span.read("1, 3..")):
            area = Area(SHOP, [("item", "left", span), ("item", "there", Span.of(1))])
            self.assertIsNone(area.size)
            self.assert_error(Endless, {}, area.cells)
        self.assertEqual(Area(SHOP, [("note", "cents", Span([(-10 ** 12, 10 ** 12)]))]).size, 2 * 10 ** 12 + 1)

    def test_operators(self):
        for first, second in itertools.product(some_cell_lists(), repeat=2):
            a, b = Area.of(TINY, first), Area.of(TINY, second)
            meet = [cell for cell in first if cell in second]
            self.assertEqual((a & b).cells(), meet)
            self.assertEqual((a | b).cells(), [cell for cell in all_cells(TINY) if cell in first or cell in second])
            self.assertEqual((a - b).cells(), [cell for cell in first if cell not in second])
            self.assert_is(meet != [], a.meets(b))
            self.assert_is(all(cell in second for cell in first), a.within(b))
            self.assert_is(first == second, a == b)
            self.assertEqual((a.cells(), b.cells()), (first, second))

    def test_operators_on_endless_areas(self):
        a = Area(SHOP, [("item", "left", Span.read("3..")), ("note", "there", Span.read("..5"))])
        b = Area(SHOP, [("item", "left", Span.read("1..9")), ("note", "there", Span.read("0.."))])
        self.assertEqual(list(a & b), [("item", "left", Span.read("3..9")), ("note", "there", Span.read("0..5"))])
        self.assertEqual(list(a | b), [("item", "left", Span.read("1..")), ("note", "there", Span.numbers())])
        self.assertEqual(list(a - b), [("item", "left", Span.read("10..")), ("note", "there", Span.read("..-1"))])
        self.assertTrue((a & b).within(a))
        self.assertFalse(a.within(b))

    def test_contains_any_three(self):
        area = Area.whole(SHOP)
        for part in NO_TABLES:
            self.assert_is(False, (part, 1, "left") in area)
        for part in NO_KEYS:
            self.assert_is(False, ("item", part, "left") in area)
        for part in NO_FIELDS:
            self.assert_is(False, ("item", 1, part) in area)
        self.assert_is(False, (EqualToAll(), EqualToAll(), EqualToAll()) in area)
        for value in [None, 1, ("item", 1), ("item", 1, "left", 1), ["item", 1, "left"], "abc", *NO_CONTENTS]:
            self.assert_is(False, value in area)
        self.assert_is(True, ("item", 10 ** 12, "left") in area)
        self.assert_is(True, ("note", -10 ** 12, "there") in area)
        self.assert_is(False, ("item", 1, "left") in Area(SHOP))
        self.assert_is(False, ("item", 1, "left") in Area.of(SHOP, [("item", 1, "there"), ("item", 2, "left")]))

    def test_span_of_and_touched(self):
        area = Area(SHOP, [("item", "left", Span.of(1, 5)), ("item", "price", Span.of(2)), ("note", "there", Span.of(0))])
        self.assertEqual(area.span_of("item", "left"), Span.of(1, 5))
        self.assertEqual(area.span_of("item", "there"), Span())
        self.assertEqual(area.span_of("note", "cents"), Span())
        self.assertEqual([area.touched("item"), area.touched("note")], [Span.of(1, 2, 5), Span.of(0)])
        self.assertEqual(Area(SHOP).touched("item"), Span())
        for table in NO_TABLES:
            self.assert_error(NoSuchTable, {"table": table}, area.touched, table)
            self.assert_error(NoSuchTable, {"table": table}, area.span_of, table, "no field")
        for field in NO_FIELDS:
            self.assert_error(InvalidField, {"table": "item", "field": field}, area.span_of, "item", field)

    def test_one(self):
        self.assertIsNone(Area(SHOP).one())
        cases = [([("note", "there", Span.of(-3, 3)), ("note", "cents", Span.of(0))], ("note", -3, "there")),
                 ([("item", "left", Span.read("7..")), ("note", "there", Span.numbers())], ("item", 7, "left")),
                 ([("item", "left", Span.of(1)), ("item", "price", Span.of(4, 6))], ("item", 4, "price")),
                 ([("note", "cents", Span.read("..-8, 9.."))], ("note", -8, "cents")),
                 ([("note", "cents", Span.numbers())], ("note", 0, "cents"))]
        for entries, cell in cases:
            self.assertEqual(Area(SHOP, entries).one(), cell)
            self.assertIn(cell, Area(SHOP, entries))

    def test_equality(self):
        area = Area(SHOP, [("item", "left", Span.of(1))])
        other_schema = Schema([SHOP.table_of("item"), Table("note", Span.of(1), [("cents", Span.everything())])])
        for other in [Area(other_schema, list(area)), list(area), tuple(area), None, Area(SHOP), Area.whole(SHOP),
                      Area(SHOP, [("item", "price", Span.of(1))]), *NO_CONTENTS]:
            self.assertFalse(area == other)
        self.assertTrue(area == Area.of(SHOP, [("item", 1, "left")]))
