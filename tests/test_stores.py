import itertools

from helpers import NO_CONTENTS, KeptCase, all_stores, places_of, rows_of_table, shop_schema, tiny_schema
from keptbase.errors import InvalidContent, InvalidKey, InvalidRow, NoSuchColumn, NoSuchTable, RepeatedPlace
from keptbase.parts import Part
from keptbase.schema import Schema, Table
from keptbase.spans import Span
from keptbase.stores import Store

SHOP = shop_schema()
NO_TABLES = ["", "shop", "Item", None, 0, *NO_CONTENTS]
NO_KEYS = [0, -1, None, "1", *NO_CONTENTS]
NO_ROWS = [None, (), (5,), (5, 0, 0), [5, 0], (100, 0), (-1, 0), (5, 10), (None, 0), (True, 0), (5, False), (5, 0.0),
           "50", *NO_CONTENTS]


def shop_store():
    return Store(SHOP, [("note", -3, (None,)), ("item", 4, (7, None)), ("note", -10, (8,)), ("item", 2, (5, 0))])


class MakingStores(KeptCase):
    def test_rows_in_the_order_of_places(self):
        listed = [("item", 2, (5, 0)), ("item", 4, (7, None)), ("note", -10, (8,)), ("note", -3, (None,))]
        for order in itertools.permutations(listed):
            store = Store(SHOP, list(order))
            self.assertEqual(list(store), listed)
            self.assertEqual(store, Store(SHOP, order))
            self.assertEqual(store.places(), [(table, key) for table, key, _ in listed])
            self.assertEqual(store.size, 4)
            self.assertIs(store.schema, SHOP)

    def test_the_order_of_tables_is_that_of_the_schema(self):
        swapped = Schema(list(SHOP)[::-1])
        store = Store(swapped, [("item", 1, (5, 0)), ("note", 5, (1,))])
        self.assertEqual(store.places(), [("note", 5), ("item", 1)])

    def test_without_rows(self):
        for store in (Store(SHOP), Store(SHOP, []), Store(SHOP, ())):
            self.assertEqual((list(store), store.size, store.places(), store.listed_rows("item")), ([], 0, [], []))

    def test_lists_are_copied(self):
        rows = [("item", 2, (5, 0))]
        store = Store(SHOP, rows)
        rows.append(("item", 3, (5, 0)))
        store.places().clear()
        store.listed_rows("item").clear()
        self.assertEqual((list(store), store.places()), ([("item", 2, (5, 0))], [("item", 2)]))

    def test_large_integers(self):
        big = 10 ** 12
        store = Store(SHOP, [("note", big, (-big,)), ("note", -big, (big,))])
        self.assertEqual(store.listed_rows("note"), [(-big, (big,)), (big, (-big,))])

    def test_errors(self):
        good = ("item", 2, (5, 0))
        for table in NO_TABLES:
            self.assert_error(NoSuchTable, {"table": table}, Store, SHOP, [good, (table, 0, ())])
        for key in NO_KEYS:
            self.assert_error(InvalidKey, {"table": "item", "key": key}, Store, SHOP, [good, ("item", key, ())])
        for row in NO_ROWS:
            self.assert_error(InvalidRow, {"table": "item", "value": row}, Store, SHOP, [good, ("item", 2, row)])
        self.assert_error(RepeatedPlace, {"table": "item", "key": 2}, Store, SHOP, [good, ("item", 3, (1, 1)), good])
        self.assertEqual(Store(SHOP, [("item", 2, (5, 0)), ("note", 2, (5,))]).size, 2)

    def test_the_first_member_with_an_error_decides(self):
        rows = [("item", 2, (5, 0)), ("item", 2, (5, 1)), ("item", 1, None), ("item", 0, (5, 0)), ("x", 1, (5, 0))]
        kinds = [(RepeatedPlace, {"table": "item", "key": 2}), (InvalidRow, {"table": "item", "value": None}),
                 (InvalidKey, {"table": "item", "key": 0}), (NoSuchTable, {"table": "x"})]
        for at, (kind, told) in enumerate(kinds):
            self.assert_error(kind, told, Store, SHOP, [rows[0], *rows[at + 1:]])
            self.assert_error(kind, told, Store, SHOP, [rows[0], rows[at + 1], *rows[1:]])


class Stores(KeptCase):
    def test_row_and_listed_rows(self):
        store = shop_store()
        self.assertEqual(store.row("item", 4), (7, None))
        self.assertEqual(store.row("note", -3), (None,))
        self.assertIsNone(store.row("item", 3))
        self.assertIsNone(store.row("note", 2))
        self.assertEqual(store.listed_rows("item"), [(2, (5, 0)), (4, (7, None))])
        self.assertEqual(store.listed_rows("note"), [(-10, (8,)), (-3, (None,))])

    def test_put_without_written(self):
        store = shop_store()
        listed = list(store)
        self.assertEqual(list(store.put("item", 3, (1, 1))), [listed[0], ("item", 3, (1, 1)), *listed[1:]])
        self.assertEqual(list(store.put("item", 4, (1, 1))), [listed[0], ("item", 4, (1, 1)), *listed[2:]])
        self.assertEqual(list(store.without("item", 4)), [listed[0], *listed[2:]])
        self.assertEqual(list(store.written("item", 4, "left", 9)), [listed[0], ("item", 4, (7, 9)), *listed[2:]])
        self.assertEqual(list(store.written("note", -3, "cents", 9)), [*listed[:3], ("note", -3, (9,))])
        self.assertEqual(list(store), listed)

    def test_nothing_changes_where_no_row_is(self):
        store = shop_store()
        self.assertEqual(store.without("item", 3), store)
        self.assertEqual(store.written("item", 3, "left", 9), store)

    def test_all_small_stores(self):
        schema = tiny_schema()
        for store in all_stores(schema):
            for name, key in places_of(schema):
                table = schema.table_of(name)
                other = [entry for entry in store if entry[:2] != (name, key)]
                self.assertEqual(store.without(name, key), Store(schema, other))
                row = store.row(name, key)
                for new in rows_of_table(table):
                    self.assertEqual(store.put(name, key, new), Store(schema, [*other, (name, key, new)]))
                    for at, column in enumerate(table.columns):
                        if row is not None:
                            changed = (*row[:at], new[at], *row[at + 1:])
                            expected = Store(schema, [*other, (name, key, changed)])
                            self.assertEqual(store.written(name, key, column, new[at]), expected)
                        else:
                            self.assertEqual(store.written(name, key, column, new[at]), store)

    def test_errors_of_places(self):
        store = shop_store()
        calls = [lambda *place: store.row(*place), lambda *place: store.without(*place),
                 lambda *place: store.put(*place, "no row"), lambda *place: store.written(*place, "no column", True)]
        for call in calls:
            for table in NO_TABLES:
                self.assert_error(NoSuchTable, {"table": table}, call, table, "no key")
            for key in NO_KEYS:
                self.assert_error(InvalidKey, {"table": "item", "key": key}, call, "item", key)
        for table in NO_TABLES:
            self.assert_error(NoSuchTable, {"table": table}, store.listed_rows, table)

    def test_errors_of_rows_columns_and_contents(self):
        store = shop_store()
        for row in NO_ROWS:
            for key in (2, 3):
                self.assert_error(InvalidRow, {"table": "item", "value": row}, store.put, "item", key, row)
        for key in (2, 3):
            for column in ["there", "key", "cents", "", None, 0, *NO_CONTENTS]:
                self.assert_error(NoSuchColumn, {"column": column}, store.written, "item", key, column, True)
            for value in [None, -1, 100, *NO_CONTENTS]:
                self.assert_error(InvalidContent, {"value": value}, store.written, "item", key, "price", value)

    def test_equality(self):
        stores = all_stores(tiny_schema())
        again = all_stores(tiny_schema())
        for at, store in enumerate(stores):
            for other_at, other in enumerate(again):
                self.assert_is(at == other_at, store == other)

    def test_not_equal_to_other_kinds(self):
        store = shop_store()
        wider = Schema([SHOP.table_of("item"), Table("note", Span.everything() - Span.of(None, 0),
                                                     [("cents", Span.everything())])])
        for other in [Store(wider, list(store)), Part(SHOP, list(store)), list(store), tuple(store), None, *NO_CONTENTS]:
            self.assertFalse(store == other)
        self.assertFalse(Store(SHOP) == Part(SHOP))
        self.assertTrue(store != Store(SHOP))
