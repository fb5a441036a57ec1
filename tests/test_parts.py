import itertools

from helpers import NO_CONTENTS, KeptCase, all_stores, places_of, shop_schema, tiny_schema
from keptbase.errors import InvalidKey, InvalidRow, NoSuchTable, NotJoined, NotTold, RepeatedPlace
from keptbase.parts import Part
from keptbase.schema import Schema, Table
from keptbase.spans import Span
from keptbase.stores import Store

SHOP = shop_schema()
TINY = tiny_schema()
NO_TABLES = ["", "shop", None, 0, *NO_CONTENTS]
NO_KEYS = [0, -1, None, *NO_CONTENTS]
NO_IMAGES = [(), (5,), [5, 0], (100, 0), (None, 0), (True, 0), *NO_CONTENTS]


def shop_part():
    return Part(SHOP, [("note", 0, None), ("item", 4, (7, None)), ("note", -3, (8,)), ("item", 2, None)])


def some_parts():
    """Parts of the tiny schema: every third store's images at every choice of places."""
    places = places_of(TINY)
    found = []
    for many in range(len(places) + 1):
        for chosen in itertools.combinations(places, many):
            found.extend([Part.of(store, chosen) for store in all_stores(TINY)[::4]])
    return found


class MakingParts(KeptCase):
    def test_images_in_the_order_of_places(self):
        listed = [("item", 2, None), ("item", 4, (7, None)), ("note", -3, (8,)), ("note", 0, None)]
        for order in itertools.permutations(listed):
            part = Part(SHOP, list(order))
            self.assertEqual(list(part), listed)
            self.assertEqual(part, Part(SHOP, order))
            self.assertEqual(part.places(), [(table, key) for table, key, _ in listed])
            self.assertEqual(part.size, 4)
            self.assertIs(part.schema, SHOP)

    def test_told_keys_rows_and_store(self):
        part = shop_part()
        self.assertEqual([part.told_keys("item"), part.told_keys("note")], [[2, 4], [-3, 0]])
        self.assertEqual(part.listed_rows("item"), [(4, (7, None))])
        self.assertEqual(part.listed_rows("note"), [(-3, (8,))])
        self.assertEqual(part.as_store(), Store(SHOP, [("item", 4, (7, None)), ("note", -3, (8,))]))
        for table in NO_TABLES:
            self.assert_error(NoSuchTable, {"table": table}, part.told_keys, table)
            self.assert_error(NoSuchTable, {"table": table}, part.listed_rows, table)

    def test_lists_are_copied(self):
        images = [("item", 2, None)]
        part = Part(SHOP, images)
        images.append(("item", 3, None))
        for listed in (part.places(), part.told_keys("item"), part.listed_rows("item")):
            listed.append("more")
        self.assertEqual((list(part), part.places(), part.told_keys("item")), ([("item", 2, None)], [("item", 2)], [2]))
        self.assertEqual((list(Part(SHOP)), Part(SHOP).size), ([], 0))

    def test_errors(self):
        good = ("item", 2, None)
        for table in NO_TABLES:
            self.assert_error(NoSuchTable, {"table": table}, Part, SHOP, [good, (table, 0, ())])
        for key in NO_KEYS:
            self.assert_error(InvalidKey, {"table": "item", "key": key}, Part, SHOP, [good, ("item", key, ())])
        for image in NO_IMAGES:
            self.assert_error(InvalidRow, {"table": "item", "value": image}, Part, SHOP, [good, ("item", 2, image)])
        for image in (None, (5, 0)):
            told = {"table": "item", "key": 2}
            self.assert_error(RepeatedPlace, told, Part, SHOP, [good, ("item", 2, image), ("item", 2, ())])

    def test_of(self):
        store = Store(SHOP, [("item", 4, (7, None)), ("note", 3, (8,))])
        part = Part.of(store, [("note", 3), ("item", 5), ("item", 4), ("item", 5)])
        self.assertEqual(list(part), [("item", 4, (7, None)), ("item", 5, None), ("note", 3, (8,))])
        self.assertEqual(Part.of(store, ()), Part(SHOP))
        self.assertIsInstance(vars(Part)["of"], classmethod)
        for table in NO_TABLES:
            self.assert_error(NoSuchTable, {"table": table}, Part.of, store, [("item", 4), (table, 0), ("item", 0)])
        for key in NO_KEYS:
            told = {"table": "item", "key": key}
            self.assert_error(InvalidKey, told, Part.of, store, (("item", 4), ("item", key), ("x", 1)))


class Parts(KeptCase):
    def test_tells_and_image(self):
        part = shop_part()
        self.assert_is(True, part.tells("item", 2))
        self.assert_is(True, part.tells("note", -3))
        self.assert_is(False, part.tells("item", 3))
        self.assertIsNone(part.image("item", 2))
        self.assertEqual(part.image("item", 4), (7, None))
        self.assert_error(NotTold, {"table": "item", "key": 3}, part.image, "item", 3)
        for call in (part.tells, part.image):
            for table in NO_TABLES:
                self.assert_error(NoSuchTable, {"table": table}, call, table, 0)
            for key in NO_KEYS:
                self.assert_error(InvalidKey, {"table": "item", "key": key}, call, "item", key)

    def test_agrees_and_laid_on(self):
        for part in some_parts()[::5]:
            for store in all_stores(TINY):
                agrees = all(store.row(table, key) == image for table, key, image in part)
                self.assert_is(agrees, part.agrees(store))
                laid = part.laid_on(store)
                self.assertIsInstance(laid, Store)
                for table, key in places_of(TINY):
                    row = part.image(table, key) if part.tells(table, key) else store.row(table, key)
                    self.assertEqual(laid.row(table, key), row)
                self.assertTrue(part.agrees(laid))
                self.assert_is(agrees, laid == store)

    def test_joined(self):
        parts = some_parts()[::17]
        for first, second in itertools.product(parts, repeat=2):
            odd = [place for place in places_of(TINY) if first.tells(*place) and second.tells(*place)
                   and first.image(*place) != second.image(*place)]
            if odd:
                told = {"table": odd[0][0], "key": odd[0][1]}
                self.assert_error(NotJoined, told, first.joined, second)
            else:
                joined = first.joined(second)
                self.assertEqual(joined, second.joined(first))
                for place in places_of(TINY):
                    self.assert_is(first.tells(*place) or second.tells(*place), joined.tells(*place))
                for part in (first, second):
                    self.assertTrue(all(joined.image(table, key) == image for table, key, image in part))

    def test_joined_raises_for_the_first_place_in_order(self):
        first = Part(SHOP, [("note", -5, (1,)), ("item", 9, None), ("item", 1, (1, 1)), ("item", 3, (1, 1))])
        second = Part(SHOP, [("note", -5, (2,)), ("item", 9, (3, 3)), ("item", 1, (1, 1)), ("item", 3, None)])
        self.assert_error(NotJoined, {"table": "item", "key": 3}, first.joined, second)
        self.assert_error(NotJoined, {"table": "item", "key": 3}, second.joined, first)

    def test_equality(self):
        parts = some_parts()[::9]
        for first, second in itertools.product(parts, repeat=2):
            self.assert_is(list(first) == list(second), first == second)
        part = Part(SHOP, [("item", 2, (5, 0))])
        other_schema = Schema([SHOP.table_of("item"), Table("note", Span.of(1), [("cents", Span.everything())])])
        for other in [Part(other_schema, list(part)), part.as_store(), list(part), tuple(part), None,
                      Part(SHOP, [("item", 2, None)]), Part(SHOP), *NO_CONTENTS]:
            self.assertFalse(part == other)
