import itertools

from helpers import KeptCase, all_cells, all_stores, cells_apart, shop_schema, tiny_schema
from keptbase.areas import Area
from keptbase.differ import agree_on
from keptbase.grips import layer_area, layer_grip, sits, unseated
from keptbase.layers import Layer, between
from keptbase.schema import Schema, Table
from keptbase.spans import Span
from keptbase.stores import Store

TINY = tiny_schema()
STORES = all_stores(TINY)
LAYERS = [between(first, second) for first, second in itertools.product(STORES[::8], STORES[::9])]
NARROW = Schema([Table("a", Span.of(1, 2), [("x", Span.of(None, 0)), ("y", Span.of(0, 1))])])


def grip_by_words(layer):
    """The cells of the grip, told straight from point 26."""
    found = []
    for table, key, before, after in layer:
        columns = layer.schema.table_of(table).columns
        found.append((table, key, "there"))
        for at, column in enumerate(columns):
            if before is not None and (after is None or before[at] != after[at]):
                found.append((table, key, column))
    return found


def sits_by_words(layer, store):
    """Whether the layer sits, told straight from point 27."""
    for table, key, before, after in layer:
        row = store.row(table, key)
        if before is None or after is None:
            if row != before:
                return False
        elif row is None or any(old != new and content != old for old, new, content in zip(before, after, row)):
            return False
    return True


class AreaAndGrip(KeptCase):
    def test_area(self):
        for layer in LAYERS:
            cells = cells_apart(layer.old.as_store(), layer.new.as_store())
            self.assertEqual(layer_area(layer), Area.of(TINY, cells))

    def test_grip(self):
        for layer in LAYERS:
            self.assertEqual(layer_grip(layer).cells(), grip_by_words(layer))
            self.assertTrue(layer_area(layer).within(layer_grip(layer)))

    def test_each_kind_of_change(self):
        shop = shop_schema()
        cases = [(None, (1, 2), ["there"], ["there"]), ((1, 2), None, ["there"], ["there", "price", "left"]),
                 ((1, 2), (1, None), ["left"], ["there", "left"]),
                 ((1, 2), (2, 3), ["price", "left"], ["there", "price", "left"])]
        for before, after, area, grip in cases:
            layer = Layer(shop, [("item", 3, before, after)])
            self.assertEqual(layer_area(layer).cells(), [("item", 3, field) for field in area])
            self.assertEqual(layer_grip(layer).cells(), [("item", 3, field) for field in grip])
        self.assertEqual((layer_area(Layer(shop)), layer_grip(Layer(shop))), (Area(shop), Area(shop)))


class Sitting(KeptCase):
    def test_sits_and_unseated(self):
        for layer, store in itertools.product(LAYERS[::2], STORES[::3]):
            odd = [cell for cell in cells_apart(store, layer.old.as_store()) if cell in grip_by_words(layer)]
            self.assertEqual(unseated(layer, store), odd[0] if odd else None)
            self.assert_is(odd == [], sits(layer, store))
            self.assertEqual(sits(layer, store), sits_by_words(layer, store))

    def test_the_first_cell_in_the_order_of_cells(self):
        shop = shop_schema()
        layer = Layer(shop, [("note", 0, None, (1,)), ("item", 3, (1, 1), (2, 2)), ("item", 9, (1, 1), None)])
        stores = [[("item", 3, (1, 1)), ("item", 9, (1, 1))], [("item", 3, (1, 5)), ("item", 9, (1, 1)), ("note", 0, (4,))],
                  [("item", 9, (1, 1))], [("item", 3, (1, 1))], [("item", 3, (1, 1)), ("item", 9, (1, 2))],
                  [("item", 3, (1, 1)), ("item", 9, (1, 1)), ("note", 0, (4,))]]
        cells = [None, ("item", 3, "left"), ("item", 3, "there"), ("item", 9, "there"), ("item", 9, "left"),
                 ("note", 0, "there")]
        self.assertEqual([unseated(layer, Store(shop, rows)) for rows in stores], cells)

    def test_a_layer_sits_on_each_store_that_it_fits(self):
        for layer, store in itertools.product(LAYERS, STORES[::2]):
            if layer.fits(store):
                self.assertTrue(sits(layer, store))
        self.assertTrue(all(sits(Layer(TINY), store) for store in STORES))

    def test_for_exactly_the_cells_of_the_grip_one_cell_decides(self):
        stores = all_stores(NARROW)
        pairs = [(one, two, cells_apart(one, two)) for one, two in itertools.combinations(stores, 2)]
        pairs = [(one, two, cells[0]) for one, two, cells in pairs if len(cells) == 1]
        for first, second in itertools.product(stores[::4], stores[::3]):
            layer = between(first, second)
            on = {id(store): sits(layer, store) for store in stores}
            deciding = {cell for one, two, cell in pairs if on[id(one)] != on[id(two)]}
            self.assertEqual([cell for cell in all_cells(NARROW) if cell in deciding], layer_grip(layer).cells())

    def test_stores_that_agree_on_the_grip(self):
        for layer in LAYERS[::5]:
            grip = layer_grip(layer)
            for one, two in itertools.product(STORES[::6], STORES[::7]):
                if agree_on(one, two, grip):
                    self.assertEqual(sits(layer, one), sits(layer, two))
