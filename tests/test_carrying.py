import itertools

from helpers import KeptCase, all_stores, cells_apart, places_of, shop_schema, tiny_schema
from keptbase.carrying import carried, carried_run, exchangeable
from keptbase.errors import DoesNotSit
from keptbase.grips import layer_area, layer_grip, sits, unseated
from keptbase.layers import Layer, between
from keptbase.schema import Schema, Table
from keptbase.spans import Span
from keptbase.stores import Store

TINY = tiny_schema()
STORES = all_stores(TINY)
LAYERS = [between(first, second) for first, second in itertools.product(STORES[::8], STORES[::9])]
NARROW = Schema([Table("a", Span.of(1, 2), [("x", Span.of(None, 0)), ("y", Span.of(0, 1))])])


def image_by_words(before, after, row):
    """What a change makes of a row or None, told straight from point 28."""
    if before is None or after is None:
        return after
    return tuple(new if old != new else content for old, new, content in zip(before, after, row))


class Carrying(KeptCase):
    def test_carried(self):
        for layer, store in itertools.product(LAYERS, STORES[::3]):
            if not sits(layer, store):
                self.assert_error(DoesNotSit, {"cell": unseated(layer, store)}, carried, layer, store)
                continue
            result = carried(layer, store)
            for place in places_of(TINY):
                images = layer.images(*place)
                row = store.row(*place)
                self.assertEqual(result.row(*place), row if images is None else image_by_words(*images, row))

    def test_the_carried_layer(self):
        for layer, store in itertools.product(LAYERS, STORES[::3]):
            if not sits(layer, store):
                continue
            result = carried(layer, store)
            real = between(store, result)
            self.assertEqual(layer_area(real), layer_area(layer))
            self.assertEqual(layer_grip(real), layer_grip(layer))
            self.assertTrue(sits(-real, result))
            self.assertEqual(carried(-real, result), store)
            if layer.fits(store):
                self.assertEqual(result, layer.lead(store))

    def test_stale_columns_stay(self):
        shop = shop_schema()
        layer = Layer(shop, [("item", 2, (5, 9), (6, 9)), ("item", 3, None, (1, 1)), ("item", 4, (2, 2), None)])
        store = Store(shop, [("item", 2, (5, 0)), ("item", 4, (2, 2)), ("note", 7, (1,))])
        self.assertEqual(list(carried(layer, store)), [("item", 2, (6, 0)), ("item", 3, (1, 1)), ("note", 7, (1,))])
        self.assertEqual(carried(Layer(shop), store), store)

    def test_carried_run(self):
        for first, second in itertools.product(LAYERS[::4], LAYERS[::3]):
            store = first.old.as_store()
            after = carried(first, store)
            if sits(second, after):
                self.assertEqual(carried_run([first, second], store), [store, after, carried(second, after)])
                self.assertEqual(carried_run((first, second), store), [store, after, carried(second, after)])
            else:
                told = {"cell": unseated(second, after)}
                self.assert_error(DoesNotSit, told, carried_run, [first, second, "later"], store)
        for store in STORES[:5]:
            self.assertEqual(carried_run([], store), [store])

    def test_worked_example(self):
        domains = [("price", Span([(0, 99)])), ("left", Span([(0, 9)]))]
        shop = Schema([Table("item", Span([(1, None)]), domains)])
        price = Layer(shop, [("item", 2, (5, 9), (6, 9))])
        gone = Layer(shop, [("item", 2, (5, 0), None)])
        run = carried_run([price], Store(shop, [("item", 2, (5, 0))]))
        shown = (list(run[1]), layer_grip(price).cells(), unseated(gone, run[1]), exchangeable(gone, price))
        self.assertEqual(shown, ([("item", 2, (6, 0))], [("item", 2, "there"), ("item", 2, "price")],
                                 ("item", 2, "price"), False))


class Exchanging(KeptCase):
    def setUp(self):
        stores = all_stores(NARROW)
        self.stores = stores[::2]
        self.layers = [between(first, second) for first, second in itertools.product(stores[::6], stores[::5])]

    def test_exchangeable(self):
        for first, second in itertools.product(self.layers, repeat=2):
            area = cells_apart(first.old.as_store(), first.new.as_store())
            meets = any(cell in layer_grip(second) for cell in area)
            self.assert_is(not meets, exchangeable(first, second))

    def test_the_four_facts_hold_together(self):
        for first, second in itertools.product(self.layers, repeat=2):
            for store in self.stores:
                if not sits(first, store) or not sits(second, store):
                    continue
                one, two = carried(first, store), carried(second, store)
                facts = [sits(second, one), sits(first, two), exchangeable(first, second), exchangeable(second, first)]
                self.assertEqual(len(set(facts)), 1)
                if facts[0]:
                    self.assertEqual(carried(second, one), carried(first, two))

    def test_all_orders_end_in_the_same_store(self):
        empty = Store(NARROW)
        put = Layer(NARROW, [("a", 1, None, (0, 0))])
        layers = [put, Layer(NARROW, [("a", 1, (0, 1), (None, 1))]), Layer(NARROW, [("a", 1, (None, 0), (None, 1))]),
                  Layer(NARROW, [("a", 2, None, (0, 1))])]
        ends = []
        for order in itertools.permutations(layers):
            try:
                ends.append(carried_run(order, empty)[-1])
            except DoesNotSit:
                continue
        self.assertGreater(len(ends), 5)
        self.assertTrue(all(end == ends[0] for end in ends))
        self.assertEqual(list(ends[0]), [("a", 1, (None, 1)), ("a", 2, (0, 1))])
