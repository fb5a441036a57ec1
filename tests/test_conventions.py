"""Points 0.3 and 0.4: tuples in the place of lists, nothing changed behind a call, limits that raise nothing."""

from helpers import KeptCase, shop_schema
from keptbase.areas import Area
from keptbase.errors import KeptError
from keptbase.parts import Part
from keptbase.pieces import pieces, samples
from keptbase.rows import picked
from keptbase.schema import Schema, Table
from keptbase.spans import Span
from keptbase.stores import Store

SHOP = shop_schema()
BIG = 10 ** 12


class Conventions(KeptCase):
    def test_tuples_in_the_place_of_lists(self):
        rows = [("item", 4, (7, None)), ("note", -3, (1,))]
        places = [("item", 4), ("note", 0)]
        cells = [("item", 4, "left"), ("note", 0, "there")]
        store = Store(SHOP, rows)
        self.assertEqual(Store(SHOP, tuple(rows)), store)
        self.assertEqual(Part(SHOP, tuple(rows)), Part(SHOP, rows))
        self.assertEqual(Part.of(store, tuple(places)), Part.of(store, places))
        self.assertEqual(Area.of(SHOP, tuple(cells)), Area.of(SHOP, cells))
        self.assertEqual(Schema(tuple(SHOP)), SHOP)
        self.assertEqual(picked(SHOP.table_of("item"), (7, None), ("left",)), (None,))
        self.assertEqual(samples(Span.of(1), (Span.of(1),), 1), [1])

    def test_no_call_changes_what_it_is_given(self):
        rows, cells, cuts = [("note", 5, (1,)), ("item", 4, (7, 1))], [("note", 1, "there"), ("item", 2, "left")], []
        before = (list(rows), list(cells))
        store = Store(SHOP, rows)
        Part(SHOP, rows).joined(Part.of(store, store.places())).laid_on(store)
        Area.of(SHOP, cells)
        pieces(Span.numbers(), cuts)
        self.assertEqual(((rows, cells), cuts), (before, []))

    def test_errors_leave_objects_as_they_were(self):
        store = Store(SHOP, [("item", 4, (7, 1))])
        part = Part(SHOP, [("item", 4, None)])
        calls = [lambda: store.put("item", 4, (7,)), lambda: store.written("item", 4, "left", 10),
                 lambda: store.without("item", 0), lambda: part.joined(Part(SHOP, list(store))),
                 lambda: part.image("item", 5)]
        for call in calls:
            with self.assertRaises(KeptError):
                call()
            self.assertEqual((list(store), list(part)), ([("item", 4, (7, 1))], [("item", 4, None)]))

    def test_a_little_beyond_the_limits(self):
        span = Span([(3 * at, 3 * at + 1) for at in range(14)])
        self.assertEqual((len(span.stretches), span.size), (14, 28))
        columns = [(name, Span.numbers()) for name in "wxyz"]
        tables = [Table(f"t{at}", Span.numbers(), columns, [(f"s{n}", ["x"]) for n in range(5)]) for at in range(6)]
        schema = Schema(tables)
        self.assertEqual((len(schema.tables), len(tables[0].tests)), (6, 5))
        store = Store(schema, [("t5", key, (key, BIG + key, -BIG, 0)) for key in range(50)])
        self.assertEqual((store.size, store.row("t5", 49)), (50, (49, BIG + 49, -BIG, 0)))
        self.assertEqual(Area.of(schema, [("t0", 2 * key, "x") for key in range(50)]).size, 50)

    def test_integers_of_the_largest_size(self):
        for key in (BIG, -BIG):
            store = Store(SHOP, [("note", key, (-key,))])
            self.assertEqual((store.places(), store.row("note", key)), ([("note", key)], (-key,)))
            self.assertEqual(store.written("note", key, "cents", key).row("note", key), (key,))
            self.assertEqual(Part.of(store, [("note", key)]).image("note", key), (-key,))
            self.assertEqual(Area.of(SHOP, [("note", key, "there")]).one(), ("note", key, "there"))
