import itertools

from helpers import NO_CONTENTS, KeptCase, all_stores, places_of, shop_schema, tiny_schema
from keptbase.composing import broken_place, least_base
from keptbase.errors import (DoesNotFit, DoesNotFollow, IdleChange, InvalidKey, InvalidRow, NoSuchTable,
                             RepeatedPlace)
from keptbase.layers import Layer, between
from keptbase.parts import Part
from keptbase.schema import Schema, Table
from keptbase.spans import Span
from keptbase.stores import Store

SHOP = shop_schema()
TINY = tiny_schema()
STORES = all_stores(TINY)
SMALL = Schema([Table("a", Span.of(1, 2), [("x", Span.of(None, 0))])])
SMALL_STORES = all_stores(SMALL)
NO_TABLES = ["", "shop", None, 0, *NO_CONTENTS]
NO_KEYS = [0, -1, None, *NO_CONTENTS]
NO_IMAGES = [(), (5,), [5, 0], (100, 0), (None, 0), (True, 0), *NO_CONTENTS]


def shop_layer():
    return Layer(SHOP, [("note", 0, None, (3,)), ("item", 4, (7, None), (7, 2)), ("note", -3, (8,), None)])


def small_layers():
    """All layers of a schema with two places, each with the images none, None and 0."""
    images = [None, (None,), (0,)]
    choices = [None, *[(old, new) for old in images for new in images if old != new]]
    found = []
    for first, second in itertools.product(choices, repeat=2):
        told = [("a", key, *pair) for key, pair in ((1, first), (2, second)) if pair is not None]
        found.append(Layer(SMALL, told))
    return found


class MakingLayers(KeptCase):
    def test_changes_in_the_order_of_places(self):
        listed = [("item", 4, (7, None), (7, 2)), ("note", -3, (8,), None), ("note", 0, None, (3,))]
        for order in itertools.permutations(listed):
            layer = Layer(SHOP, list(order))
            self.assertEqual(list(layer), listed)
            self.assertEqual(layer, Layer(SHOP, order))
            self.assertEqual(layer.places(), [("item", 4), ("note", -3), ("note", 0)])
            self.assertEqual(layer.size, 3)
            self.assertIs(layer.schema, SHOP)
            self.assert_is(True, bool(layer))

    def test_a_layer_without_changes(self):
        for layer in (Layer(SHOP), Layer(SHOP, []), Layer(SHOP, ())):
            self.assertEqual((list(layer), layer.size, layer.places()), ([], 0, []))
            self.assert_is(False, bool(layer))
            self.assertEqual((layer.old, layer.new), (Part(SHOP), Part(SHOP)))
            store = Store(SHOP, [("item", 2, (5, 0))])
            self.assertTrue(layer.fits(store))
            self.assertEqual(layer.lead(store), store)
            self.assertEqual((-layer, layer + layer), (layer, layer))

    def test_old_and_new(self):
        layer = shop_layer()
        self.assertEqual(layer.old, Part(SHOP, [("item", 4, (7, None)), ("note", -3, (8,)), ("note", 0, None)]))
        self.assertEqual(layer.new, Part(SHOP, [("item", 4, (7, 2)), ("note", -3, None), ("note", 0, (3,))]))
        for name in ("old", "new"):
            self.assertIsInstance(vars(Layer)[name], property)

    def test_lists_are_copied(self):
        changes = [("item", 2, None, (1, 1))]
        layer = Layer(SHOP, changes)
        changes.append(("item", 3, None, (1, 1)))
        layer.places().clear()
        self.assertEqual((list(layer), layer.places()), ([("item", 2, None, (1, 1))], [("item", 2)]))

    def test_images(self):
        layer = shop_layer()
        self.assertEqual(layer.images("item", 4), ((7, None), (7, 2)))
        self.assertEqual(layer.images("note", 0), (None, (3,)))
        self.assertIsNone(layer.images("item", 3))
        for table in NO_TABLES:
            self.assert_error(NoSuchTable, {"table": table}, layer.images, table, 0)
        for key in NO_KEYS:
            self.assert_error(InvalidKey, {"table": "item", "key": key}, layer.images, "item", key)

    def test_errors(self):
        good = ("item", 2, None, (5, 0))
        for table in NO_TABLES:
            self.assert_error(NoSuchTable, {"table": table}, Layer, SHOP, [good, (table, 0, (), ())])
        for key in NO_KEYS:
            self.assert_error(InvalidKey, {"table": "item", "key": key}, Layer, SHOP, [good, ("item", key, (), ())])
        for image in NO_IMAGES:
            told = {"table": "item", "value": image}
            self.assert_error(InvalidRow, told, Layer, SHOP, [good, ("item", 2, image, "later")])
            self.assert_error(InvalidRow, told, Layer, SHOP, [good, ("item", 2, (5, 0), image), ("x", 1, None, None)])
        for image in (None, (5, 0)):
            told = {"table": "item", "key": 2}
            self.assert_error(IdleChange, told, Layer, SHOP, [good, ("item", 2, image, image)])
        self.assert_error(RepeatedPlace, {"table": "item", "key": 2}, Layer, SHOP, [good, ("item", 2, (5, 0), None)])

    def test_equality(self):
        layers = small_layers()
        for at, layer in enumerate(small_layers()):
            for other_at, other in enumerate(layers):
                self.assert_is(at == other_at, layer == other)
        layer = shop_layer()
        wider = Schema([SHOP.table_of("item"), Table("note", Span.of(-3, 0), [("cents", Span.everything())])])
        for other in [Layer(wider, list(layer)), list(layer), tuple(layer), None, layer.old, -layer, *NO_CONTENTS]:
            self.assertFalse(layer == other)


class Leading(KeptCase):
    def test_between_leads_from_each_store_to_each_store(self):
        for first, second in itertools.product(STORES[::4], STORES):
            layer = between(first, second)
            changed = [place for place in places_of(TINY) if first.row(*place) != second.row(*place)]
            self.assertEqual(layer.places(), changed)
            for table, key, before, after in layer:
                self.assertEqual((before, after), (first.row(table, key), second.row(table, key)))
            self.assertTrue(layer.fits(first))
            self.assertEqual(layer.lead(first), second)

    def test_fits_and_lead(self):
        for layer, store in itertools.product(small_layers(), SMALL_STORES):
            odd = [place for place in layer.places() if store.row(*place) != layer.images(*place)[0]]
            self.assert_is(odd == [], layer.fits(store))
            if odd:
                self.assert_error(DoesNotFit, {"table": odd[0][0], "key": odd[0][1]}, layer.lead, store)
            else:
                led = layer.lead(store)
                for place in places_of(SMALL):
                    images = layer.images(*place)
                    self.assertEqual(led.row(*place), store.row(*place) if images is None else images[1])
                self.assertEqual(list(between(store, led)), list(layer))

    def test_the_first_place_in_order_does_not_fit(self):
        layer = Layer(SHOP, [("note", -9, (1,), None), ("item", 8, None, (1, 1)), ("item", 3, (1, 1), (2, 2))])
        store = Store(SHOP, [("item", 8, (1, 1)), ("item", 3, (1, 1))])
        self.assert_error(DoesNotFit, {"table": "item", "key": 8}, layer.lead, store)
        self.assert_error(DoesNotFit, {"table": "note", "key": -9}, layer.lead, store.without("item", 8))


class Composing(KeptCase):
    def setUp(self):
        self.layers = small_layers()

    def led_both(self, first, second):
        """The pairs of a store on which both layers lead in turn, and the store where they lead."""
        found = []
        for store in SMALL_STORES:
            if first.fits(store) and second.fits(first.lead(store)):
                found.append((store, second.lead(first.lead(store))))
        return found

    def test_follows_exactly_if_both_can_lead(self):
        for first, second in itertools.product(self.layers, repeat=2):
            odd = [place for place in first.places() if second.images(*place) is not None
                   and first.images(*place)[1] != second.images(*place)[0]]
            led = self.led_both(first, second)
            self.assertEqual(odd == [], led != [])
            if odd:
                self.assertEqual(broken_place(first, second), odd[0])
                self.assertIsNone(least_base(first, second))
            else:
                self.assertIsNone(broken_place(first, second))
                self.assertEqual(least_base(first, second), min([store for store, _ in led], key=lambda s: s.size))

    def test_least_base(self):
        first = Layer(SHOP, [("item", 1, (1, 1), None), ("item", 2, None, (2, 2))])
        second = Layer(SHOP, [("item", 2, (2, 2), (3, 3)), ("note", 0, (4,), None), ("note", 5, None, (6,))])
        self.assertEqual(least_base(first, second), Store(SHOP, [("item", 1, (1, 1)), ("note", 0, (4,))]))
        self.assertEqual(least_base(Layer(SHOP), Layer(SHOP)), Store(SHOP))

    def test_sum(self):
        for first, second in itertools.product(self.layers, repeat=2):
            odd = broken_place(first, second)
            if odd is not None:
                told = {"table": odd[0], "key": odd[1]}
                self.assert_error(DoesNotFollow, told, lambda one, two: one + two, first, second)
                continue
            total = first + second
            for store, end in self.led_both(first, second):
                self.assertEqual(total.lead(store), end)
            for place in places_of(SMALL):
                one, two = first.images(*place), second.images(*place)
                if one is not None and two is not None:
                    self.assertEqual(total.images(*place), (one[0], two[1]) if one[0] != two[1] else None)
                else:
                    self.assertEqual(total.images(*place), one if two is None else two)

    def test_does_not_follow_at_the_first_place_in_order(self):
        first = Layer(SHOP, [("note", 1, None, (1,)), ("item", 9, None, (1, 1)), ("item", 4, None, (1, 1))])
        second = Layer(SHOP, [("note", 1, (2,), None), ("item", 9, None, (1, 1)), ("item", 4, (1, 1), None)])
        self.assertEqual(broken_place(first, second), ("item", 9))
        self.assert_error(DoesNotFollow, {"table": "item", "key": 9}, lambda: first + second)

    def test_a_place_that_falls_out_of_a_sum(self):
        first = Layer(SHOP, [("item", 1, None, (1, 1)), ("item", 2, (1, 1), (2, 2))])
        second = Layer(SHOP, [("item", 1, (1, 1), None), ("item", 2, (2, 2), (3, 3))])
        self.assertEqual(list(first + second), [("item", 2, (1, 1), (3, 3))])

    def test_associativity(self):
        layers = self.layers[::2]
        for first, second in itertools.product(layers, repeat=2):
            if broken_place(first, second) is not None:
                continue
            for third in [layer for layer in layers if broken_place(second, layer) is None]:
                common = [place for place in first.places() if third.images(*place) is not None
                          and second.images(*place) is None]
                defined = all(first.images(*place)[1] == third.images(*place)[0] for place in common)
                self.assert_is(defined, broken_place(first + second, third) is None)
                self.assert_is(defined, broken_place(first, second + third) is None)
                if defined:
                    self.assertEqual((first + second) + third, first + (second + third))

    def test_inverse(self):
        for layer in self.layers:
            inverse = -layer
            self.assertEqual(list(inverse), [(table, key, after, before) for table, key, before, after in layer])
            self.assertEqual(-inverse, layer)
            self.assertEqual(layer + -layer, Layer(SMALL))
            for other in self.layers:
                defined = broken_place(layer, other) is None
                self.assert_is(defined, broken_place(-other, -layer) is None)
                if defined:
                    self.assertEqual(-(layer + other), -other + -layer)

    def test_operands_stay(self):
        first, second = shop_layer(), -shop_layer()
        listed = list(first), list(second)
        for _ in (first + second, -first, first.inner(Span.of(0)), first.outer(Span.of(0))):
            self.assertEqual((list(first), list(second)), listed)


class Cutting(KeptCase):
    def test_inner_and_outer(self):
        layers = [between(first, second) for first, second in itertools.product(STORES[::7], STORES[::11])]
        for layer in layers:
            for span in (Span(), Span.of(0), Span.read("none, -1, 5"), Span.everything()):
                for tables in ((), ("a",), ("b",), ("a", "b"), ("b", "b")):
                    inner, outer = layer.inner(span, *tables), layer.outer(span, *tables)
                    named = tables if tables else ("a", "b")
                    inside = [change for change in layer if change[1] in span and change[0] in named]
                    self.assertEqual(list(inner), inside)
                    self.assertEqual(list(outer), [change for change in layer if change not in inside])
                    self.assertEqual((inner + outer, outer + inner), (layer, layer))
                    self.assertTrue(inner.fits(layer.old.as_store()) and outer.fits(layer.old.as_store()))

    def test_no_such_table(self):
        layer = shop_layer()
        for call in (layer.inner, layer.outer):
            for table in NO_TABLES:
                self.assert_error(NoSuchTable, {"table": table}, call, Span(), "item", table, "later")


class Limits(KeptCase):
    def test_a_little_beyond_the_limits(self):
        layer = Layer(SHOP, [("note", key, None, (key,)) for key in range(20)])
        self.assertEqual((layer.size, layer.lead(Store(SHOP)).size), (20, 20))
        self.assertEqual(layer + -layer, Layer(SHOP))
