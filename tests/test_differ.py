import itertools

from helpers import KeptCase, all_cells, all_stores, cells_apart, shop_schema, tiny_schema
from keptbase.areas import Area
from keptbase.differ import agree_on, difference, differing_cells, steps
from keptbase.schema import Schema, Table
from keptbase.spans import Span
from keptbase.stores import Store

TINY = tiny_schema()
STORES = all_stores(TINY)
SOME = STORES[::5]


def narrow_schema():
    """Few cells, so that all areas can be tried."""
    return Schema([Table("a", Span.of(1, 2), [("x", Span.of(None, 0))])])


class Differences(KeptCase):
    def test_cells_by_point_fourteen(self):
        for first, second in itertools.product(SOME, STORES):
            cells = cells_apart(first, second)
            self.assertEqual(differing_cells(first, second), cells)
            self.assertEqual(differing_cells(second, first), cells)
            self.assert_is(cells == [], first == second)

    def test_difference_is_the_area_of_these_cells(self):
        for first, second in itertools.product(SOME, SOME):
            area = difference(first, second)
            self.assertIsInstance(area, Area)
            self.assertEqual(area, Area.of(TINY, cells_apart(first, second)))
            self.assertEqual(area.cells(), differing_cells(first, second))

    def test_worked_example(self):
        domains = [("price", Span([(0, 99)])), ("left", Span([(0, 9)]))]
        shop = Schema([Table("item", Span([(1, None)]), domains)])
        s = Store(shop, [("item", 4, (7, 3)), ("item", 2, (5, 0))])
        t = Store(shop, [("item", 2, (5, 1))])
        v = s.put("item", 4, (8, 3))
        self.assertEqual((differing_cells(s, t), differing_cells(s, v), list(steps(s, t)[1])),
                         ([("item", 2, "left"), ("item", 4, "there")], [("item", 4, "price")],
                          [("item", 2, (5, 1)), ("item", 4, (7, 3))]))

    def test_a_row_that_is_absent_hides_its_columns(self):
        shop = shop_schema()
        s, v = Store(shop, [("item", 2, (5, 0))]), Store(shop, [("item", 2, (5, 1))])
        self.assertFalse(difference(s, v).within(difference(s, Store(shop)) | difference(Store(shop), v)))

    def test_order_of_cells(self):
        shop = shop_schema()
        s = Store(shop, [("note", -4, (1,)), ("item", 7, (1, 1)), ("item", 3, (1, 1))])
        t = Store(shop, [("note", -4, (None,)), ("item", 7, (2, None)), ("item", 5, (1, 1))])
        cells = [("item", 3, "there"), ("item", 5, "there"), ("item", 7, "price"), ("item", 7, "left"),
                 ("note", -4, "cents")]
        self.assertEqual(differing_cells(s, t), cells)


class Steps(KeptCase):
    def test_each_step_changes_the_next_cell_alone(self):
        for first, second in itertools.product(SOME, STORES[::3]):
            found = steps(first, second)
            self.assertEqual((found[0], found[-1]), (first, second))
            changed = [cells_apart(one, two) for one, two in zip(found, found[1:])]
            self.assertEqual(changed, [[cell] for cell in cells_apart(first, second)])

    def test_from_a_store_to_an_equal_one(self):
        for store in SOME:
            self.assertEqual(steps(store, Store(TINY, list(store))), [store])


class Agreement(KeptCase):
    def test_agree_on(self):
        areas = [Area(TINY), Area.whole(TINY), Area.of(TINY, all_cells(TINY)[::2]), Area.of(TINY, all_cells(TINY)[1::3]),
                 Area(TINY, [("a", "there", Span.of(0))]), Area(TINY, [("a", "x", Span.of(0)), ("b", "x", Span.of(5))])]
        for first, second, area in itertools.product(SOME, SOME, areas):
            agree = not any(cell in area for cell in cells_apart(first, second))
            self.assert_is(agree, agree_on(first, second, area))
            self.assert_is(agree, agree_on(second, first, area))

    def test_when_agreeing_stores_agree_with_one_another(self):
        schema = narrow_schema()
        stores, cells = all_stores(schema), all_cells(schema)
        for chosen in itertools.product([False, True], repeat=len(cells)):
            area = Area.of(schema, [cell for cell, taken in zip(cells, chosen) if taken])
            passed_on = all(agree_on(one, three, area) for one, two, three in itertools.product(stores, repeat=3)
                            if agree_on(one, two, area) and agree_on(two, three, area))
            has_there = all(("a", key, "there") in area for key in area.touched("a").listed())
            self.assertEqual(passed_on, has_there)
