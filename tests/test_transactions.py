"""Writes, transactions and choosers (points 71 to 73, and 80)."""

import itertools

from helpers import (NO_CONTENTS, KeptCase, all_sights, all_stores, answer_by_words, cells_apart, rows_of_table, shop_schema,
                     tiny_schema)
from keptbase.areas import Area
from keptbase.choosers import Fixed, Mixed
from keptbase.conditions import Always, CellIn, KeyIn, Unseen
from keptbase.errors import InvalidChoice, InvalidKey, NoSuchColumn, NoSuchTable, SharedCell
from keptbase.questions import Question
from keptbase.schema import Schema, Table
from keptbase.sights import Sight
from keptbase.spans import Span
from keptbase.stores import Store
from keptbase.transactions import Transaction, independent
from keptbase.writes import PutRow, SetCell, Sweep, Write

TINY = tiny_schema()
SHOP = shop_schema()
STORES = all_stores(TINY)
SIGNS = [("a", "odd", (1, 0)), ("a", "odd", (2, None)), ("a", "low", (0,))]


def tiny_transactions():
    """Transactions of the tiny schema, with all kinds of writes."""
    count = Question(TINY, "count", "a", where=CellIn("x", Span.of(0)) & KeyIn(Span.of(0)))
    unseen = Question(TINY, "some", "a", where=Unseen("low"))
    total = Question(TINY, "sum", "b", ["x"])
    writes = [[], [SetCell("a", -1, "x")], [SetCell("a", 0, "y"), SetCell("b", 5, "x")], [PutRow("a", 0)],
              [PutRow("b", 5), Sweep("a", Span.of(-1), "y")], [Sweep("a", Span.everything(), "x"), SetCell("a", 0, "y")],
              [Sweep("a", Span.of(7), "x")]]
    asks = [[], [count], [unseen, total]]
    return [Transaction(TINY, *both) for both in itertools.product(asks, writes)]


def contents_of(schema, table, column):
    return schema.table_of(table).domain_of(column).listed()


def choices_for(schema, write):
    """All choices for a write of a finite schema, but for the order of pairs."""
    if isinstance(write, SetCell):
        return contents_of(schema, write.table, write.column)
    if isinstance(write, PutRow):
        return [None, *rows_of_table(schema.table_of(write.table))]
    contents = contents_of(schema, write.table, write.column)
    keys = [key for key in schema.table_of(write.table).key_span.listed() if key in write.span]
    pairs = [[(key, content) for key, content in zip(keys, chosen) if content != "none"]
             for chosen in itertools.product(["none", *contents], repeat=len(keys))]
    return list(itertools.product(contents, pairs))


def all_choices(transaction):
    return [list(chosen) for chosen in itertools.product(*[choices_for(TINY, write) for write in transaction.writes])]


def effect_by_words(store, writes, choices):
    """The store after all writes, told straight from point 73."""
    rows = {(table, key): row for table, key, row in store}
    for write, choice in zip(writes, choices):
        if isinstance(write, PutRow):
            rows[write.table, write.key] = choice
            continue
        content, pairs = choice if isinstance(write, Sweep) else (choice, ())
        at = store.schema.table_of(write.table).columns.index(write.column)
        for (table, key), row in list(rows.items()):
            meant = key in write.span if isinstance(write, Sweep) else key == write.key
            if table == write.table and meant and row is not None:
                rows[table, key] = (*row[:at], dict(pairs).get(key, content), *row[at + 1:])
    return Store(store.schema, [(table, key, row) for (table, key), row in rows.items() if row is not None])


class Writes(KeptCase):
    def test_attributes(self):
        cell, row, sweep = SetCell("item", 3, "left"), PutRow("item", 3), Sweep("item", Span.of(1), "left")
        self.assertTrue(all(isinstance(write, Write) for write in (cell, row, sweep)))
        self.assertEqual((cell.table, cell.key, cell.column), ("item", 3, "left"))
        self.assertEqual((row.table, row.key), ("item", 3))
        self.assertEqual((sweep.table, sweep.span, sweep.column), ("item", Span.of(1), "left"))
        for value in NO_CONTENTS:
            cell = SetCell(value, value, value)
            self.assertTrue(cell.table is value and cell.key is value and cell.column is value)

    def test_write_areas(self):
        cases = [([], []), ([SetCell("item", 3, "left")], [("item", "left", "3")]),
                 ([PutRow("item", 3)], [("item", "there", "3"), ("item", "price", "3"), ("item", "left", "3")]),
                 ([Sweep("item", Span.everything(), "left")], [("item", "left", "1..")]),
                 ([Sweep("item", Span([(None, 0)], has_none=True), "left")], []),
                 ([Sweep("item", Span.of(0, 1, 5), "price"), SetCell("item", 4, "price")], [("item", "price", "1, 4..5")]),
                 ([Sweep("note", Span.of(-3, 9), "cents"), PutRow("note", 8)], [("note", "there", "8"), ("note", "cents", "-3, 8..9")])]
        for writes, entries in cases:
            for given in (writes, tuple(writes)):
                found = Transaction(SHOP, [], given)
                self.assertEqual([(table, field, str(span)) for table, field, span in found.write_area], entries)
                self.assertIs(type(found.writes), tuple)
                self.assertEqual([id(write) for write in found.writes], [id(write) for write in writes])

    def test_no_such_table(self):
        for table in ["c", "", None, 0, *NO_CONTENTS]:
            for write in (SetCell(table, 0, "z"), PutRow(table, 0), Sweep(table, Span(), "z")):
                self.assert_error(NoSuchTable, {"table": table}, Transaction, SHOP, [], [PutRow("note", 1), write, PutRow("z", 1)])

    def test_invalid_key(self):
        for key in [0, -1, None, *NO_CONTENTS]:
            for write in (SetCell("item", key, "z"), PutRow("item", key)):
                told = {"table": "item", "key": key}
                self.assert_error(InvalidKey, told, Transaction, SHOP, [], [PutRow("item", 1), write, PutRow("z", 1)])

    def test_no_such_column(self):
        for column in ["z", "there", "key", "cents", "fragile", None, 0, *NO_CONTENTS]:
            for write in (SetCell("item", 1, column), Sweep("item", Span(), column), Sweep("item", Span.of(1), column)):
                told = {"column": column}
                self.assert_error(NoSuchColumn, told, Transaction, SHOP, [], [PutRow("item", 1), write, PutRow("z", 1)])

    def test_shared_cells(self):
        sweep = Sweep("item", Span([(2, None)]), "left")
        cases = [([PutRow("item", 3), PutRow("item", 3)], 0, 1, ("item", 3, "there")),
                 ([SetCell("item", 3, "left"), PutRow("note", 3), PutRow("item", 3)], 0, 2, ("item", 3, "left")),
                 ([PutRow("item", 1), SetCell("item", 9, "left"), sweep], 1, 2, ("item", 9, "left")),
                 ([PutRow("note", 1), sweep, Sweep("item", Span([(None, 9)]), "left"), PutRow("item", 3)], 1, 2, ("item", 2, "left")),
                 ([SetCell("item", 3, "price"), SetCell("item", 4, "left"), sweep, SetCell("item", 3, "price")], 1, 2, ("item", 4, "left")),
                 ([SetCell("item", 4, "left"), SetCell("item", 3, "left"), PutRow("note", 0), sweep, PutRow("z", 0)],
                  0, 3, ("item", 4, "left"))]
        for writes, first, second, cell in cases:
            told = {"first": first, "second": second, "cell": cell}
            self.assert_error(SharedCell, told, Transaction, SHOP, [], writes)
        fine = [SetCell("item", 3, "left"), SetCell("item", 3, "price"), SetCell("note", 3, "cents"),
                Sweep("item", Span([(4, None)]), "left"), SetCell("item", 2, "left")]
        self.assertEqual(len(Transaction(SHOP, [], fine).writes), 5)
        self.assertEqual(len(Transaction(SHOP, [], [Sweep("item", Span.of(-5), "left")] * 2).writes), 2)


class Asks(KeptCase):
    def test_all_asks(self):
        asks = [Question(SHOP, "count", "item"), Question(SHOP, "some", "note")]
        writes = [SetCell("item", 3, "left"), PutRow("item", 4), Sweep("note", Span.of(None, 5, -2), "cents"),
                  Sweep("item", Span.of(0), "left")]
        found = Transaction(SHOP, asks, writes)
        self.assertEqual([type(found.asks), type(found.all_asks)], [tuple, tuple])
        self.assertEqual([id(ask) for ask in found.all_asks[:2]], [id(ask) for ask in asks])
        self.assertEqual([id(ask) for ask in found.asks], [id(ask) for ask in asks])
        told = [(ask.kind, ask.table, ask.shown, str(ask.where.span), type(ask.where)) for ask in found.all_asks[2:]]
        self.assertEqual(told, [("rows", "item", ("left",), "3", KeyIn), ("rows", "item", ("price", "left"), "4", KeyIn),
                                ("rows", "note", ("key", "cents"), "-2, 5", KeyIn), ("rows", "item", ("key", "left"), "nothing", KeyIn)])

    def test_no_asks_and_no_writes(self):
        found = Transaction(SHOP)
        self.assertIs(found.schema, SHOP)
        self.assertEqual((found.asks, found.writes, found.all_asks), ((), (), ()))
        self.assertEqual((found.write_area, found.read_area), (Area(SHOP), Area(SHOP)))
        store = Store(SHOP, [("note", 1, (5,))])
        self.assertEqual((found.hearing(store, Sight()), found.effect(store, [])), ((), store))

    def test_lists_are_copied(self):
        asks, writes = [Question(SHOP, "count", "item")], [PutRow("item", 4)]
        found = Transaction(SHOP, asks, writes)
        asks.append("more")
        writes.append("more")
        self.assertEqual((len(found.asks), len(found.writes), len(found.all_asks)), (1, 1, 2))

    def test_read_area_on_all_stores(self):
        steps = [(first, second, cells_apart(first, second)) for first in STORES[::2] for second in STORES
                 if first.size - second.size in (0, 1)]
        steps = [(first, second, cells[0]) for first, second, cells in steps if len(cells) == 1]
        sights = all_sights(SIGNS[2:])
        for transaction in tiny_transactions()[1::3]:
            heard = {id(store): [transaction.hearing(store, sight) for sight in sights] for store in STORES}
            cells = {cell for first, second, cell in steps if heard[id(first)] != heard[id(second)]}
            self.assertEqual(transaction.read_area, Area.of(TINY, list(cells)))

    def test_read_area_has_the_write_area_and_its_places(self):
        for transaction in tiny_transactions():
            self.assertTrue(transaction.write_area.within(transaction.read_area))
            for table in ("a", "b"):
                keys = transaction.write_area.touched(table)
                self.assertTrue(keys.within(transaction.read_area.span_of(table, "there")))

    def test_hearing(self):
        for transaction, store, sight in itertools.product(tiny_transactions()[::2], STORES[::7], all_sights(SIGNS)[::3]):
            found = transaction.hearing(store, sight)
            answers = [answer_by_words(ask, store, sight) for ask in transaction.all_asks]
            self.assertIs(type(found), tuple)
            self.assertEqual(found, tuple(tuple(told) if isinstance(told, list) else told for told in answers))
            self.assertTrue(all(not isinstance(told, list) for told in found))


class Effects(KeptCase):
    def test_effect_on_all_stores(self):
        for transaction in tiny_transactions()[:7]:
            cells = set()
            for store, choices in itertools.product(STORES[::2], all_choices(transaction)):
                found = transaction.effect(store, choices)
                self.assertEqual(found, effect_by_words(store, transaction.writes, choices))
                cells.update(cells_apart(store, found))
            # So the write area has no cell too many, too.
            self.assertEqual(Area.of(TINY, list(cells)), transaction.write_area)

    def test_tuples_and_lists(self):
        store = Store(SHOP, [("note", key, (key,)) for key in (-1, 2, 5)])
        transaction = Transaction(SHOP, [], [Sweep("note", Span([(0, None)]), "cents"), PutRow("item", 2)])
        for pairs in ([(5, None), (9, 1)], ((9, 1), (5, None))):
            for choices in ([(7, pairs), (3, None)], ((7, pairs), (3, None))):
                found = transaction.effect(store, choices)
                self.assertEqual(list(found), [("item", 2, (3, None)), ("note", -1, (-1,)), ("note", 2, (7,)), ("note", 5, (None,))])
        self.assertEqual(store.size, 3)

    def wrong_choices(self):
        """A write and what is no choice for it."""
        cell, row, sweep = SetCell("item", 3, "left"), PutRow("item", 3), Sweep("item", Span.of(-1, 1, 2), "left")
        for choice in [10, -1, (3,), *NO_CONTENTS]:
            yield cell, choice
        for choice in [3, (1,), (1, 2, 3), [1, 2], (100, 1), (1, "2"), (True, 1), *NO_CONTENTS]:
            yield row, choice
        pairs = [[(3, 1)], [(-1, 1)], [(1, 1), (1, 1)], [(1, 1), (1, 2)], [(1, 10)], [[1, 1]], [(1,)], [(1, 1, 1)], [1],
                 [None], "", {}, None, {(1, 1)}, 0, [(1, 1), "ab"], *[[(value, 1)] for value in NO_CONTENTS], *[[(1, value)] for value in NO_CONTENTS]]
        for choice in [None, 3, (3,), (3, (), ()), [3, []], (10, []), ("3", []), *[(3, value) for value in pairs], *NO_CONTENTS,
                       *[(value, []) for value in NO_CONTENTS]]:
            yield sweep, choice

    def test_invalid_choices(self):
        store = Store(SHOP, [("item", 1, (1, 1)), ("item", 3, (3, 3))])
        first = SetCell("note", 0, "cents")
        for write, choice in self.wrong_choices():
            transaction = Transaction(SHOP, [], [first, write, PutRow("note", 7)])
            self.assert_error(InvalidChoice, {"number": 1}, transaction.effect, store, [None, choice, "wrong", 5])
            alone = Transaction(SHOP, [], [write])
            self.assert_error(InvalidChoice, {"number": 0}, alone.effect, store, (choice,))
        self.assertEqual(store.size, 2)

    def test_missing_and_too_many_choices(self):
        transaction = Transaction(SHOP, [], [SetCell("note", 0, "cents"), PutRow("note", 7)])
        store = Store(SHOP)
        for choices, number in (([], 0), ([5], 1), ([5, None, None], 2), ([5, (1,), 3, 4], 2), ([5, (1, 2), 3], 1), (["5"], 0), ((5,), 1)):
            self.assert_error(InvalidChoice, {"number": number}, transaction.effect, store, choices)
        self.assert_error(InvalidChoice, {"number": 0}, Transaction(SHOP).effect, store, [None])
        self.assertEqual(list(transaction.effect(store, [5, (1,)])), [("note", 7, (1,))])

    def test_no_row_no_effect(self):
        transaction = Transaction(SHOP, [], [SetCell("note", 0, "cents"), Sweep("note", Span([(1, None)]), "cents"), PutRow("item", 1)])
        self.assertEqual(transaction.effect(Store(SHOP), [5, (6, []), None]), Store(SHOP))


class Independence(KeptCase):
    def test_exactly_if_each_hears_the_same_whichever_comes_first(self):
        schema = Schema([Table("a", Span.of(1, 2), [("x", Span.of(None, 0)), ("y", Span.of(0, 1))], [("t", ["y"])])])
        stores, sights = all_stores(schema), all_sights([("a", "t", (0,)), ("a", "t", (1,))])
        listed = [Transaction(schema), Transaction(schema, [], [SetCell("a", 1, "x")]), Transaction(schema, [], [PutRow("a", 2)]),
                  Transaction(schema, [Question(schema, "sum", "a", ["y"])]), Transaction(schema, [], [SetCell("a", 2, "y")]),
                  Transaction(schema, [Question(schema, "some", "a", where=Unseen("t"))], [SetCell("a", 1, "x")]),
                  Transaction(schema, [Question(schema, "count", "a", where=KeyIn(Span.of(2)))])]
        seen = set()
        for first, second in itertools.product(listed, repeat=2):
            same = all(self.same(schema, first, second, store, sight) for store in stores for sight in sights[:2])
            self.assert_is(same, independent(first, second))
            seen.add(same)
        self.assertEqual(seen, {True, False})

    def same(self, schema, first, second, store, sight):
        for one in itertools.product(*[choices_for(schema, write) for write in first.writes]):
            for other in itertools.product(*[choices_for(schema, write) for write in second.writes]):
                after, behind = first.effect(store, one), second.effect(store, other)
                if second.hearing(after, sight) != second.hearing(store, sight):
                    return False
                if first.hearing(behind, sight) != first.hearing(store, sight):
                    return False
                if second.effect(after, other) != first.effect(behind, one):
                    return False
        return True


def weight_by_words(heard):
    if isinstance(heard, tuple):
        return len(heard) + sum(weight_by_words(member) for member in heard)
    return {"None": 1, "True": 2, "False": 3}.get(repr(heard), heard)


def nearest_by_words(domain, number):
    for distance in range(200):
        for candidate in (number - distance, number + distance):
            if candidate in domain:
                return candidate
    return None


class Choosers(KeptCase):
    def test_fixed(self):
        given = [5, None, (3, [(2, 1), (1, None)]), (1, ()), (4, 5), "wrong", (1, [2], 3)]
        chooser = Fixed(given)
        self.assertEqual(chooser.choices, (5, None, (3, ((2, 1), (1, None))), (1, ()), (4, 5), "wrong", (1, [2], 3)))
        self.assertIs(type(chooser.choices), tuple)
        given.append("more")
        given[2][1].append((9, 9))
        for hearing in ((), (1, None), ((1,),)):
            found = chooser(Transaction(SHOP), hearing)
            self.assertIs(type(found), list)
            self.assertEqual(found, list(chooser.choices))
            found.append("more")
        self.assertEqual((len(chooser.choices), chooser.choices[2]), (7, (3, ((2, 1), (1, None)))))
        self.assertEqual((Fixed([]).choices, Fixed(()).choices), ((), ()))

    def test_mixed(self):
        domains = [("x", Span([(-50, -20), (7, 7), (30, 31)], has_none=True)), ("y", Span.of(-40, 0)), ("z", Span([(40, None)]))]
        narrow = Schema([Table("a", Span.of(1, 2, 3), domains)])
        writes = [PutRow("a", 1), SetCell("a", 2, "x"), Sweep("a", Span.of(3), "y"), SetCell("a", 2, "z"), SetCell("a", 3, "z")]
        transaction = Transaction(narrow, [], writes)
        hearings = [(), (None,), (True, False), (5, (None, (-3, ((1, 2), 4)))), ((), ((),)), (10 ** 12,), (-7, True)]
        for seed, factor, hearing in itertools.product((0, 1, -5, 40, 10 ** 12), (0, 1, 7, -3), hearings):
            n = seed + factor * weight_by_words(hearing)
            expected = []
            for w, write in enumerate(writes):
                table = narrow.table_of("a")
                if isinstance(write, PutRow):
                    row = tuple(nearest_by_words(table.domain_of(column), (n + 5 * w + 3 * i) % 97 - 48)
                                for i, column in enumerate(table.columns))
                    expected.append(None if (n + w) % 3 == 0 else row)
                    continue
                content = nearest_by_words(table.domain_of(write.column), (n + 5 * w) % 97 - 48)
                expected.append((content, ()) if isinstance(write, Sweep) else content)
            found = Mixed(seed, factor)(transaction, hearing)
            self.assertIs(type(found), list)
            self.assertEqual(found, expected)
            transaction.effect(Store(narrow), found)

    def test_mixed_row_writes_at_every_number(self):
        writes = [PutRow("note", key) for key in range(6)]
        found = Mixed(1, 1)(Transaction(SHOP, [], writes), ((4,),))
        n = 1 + 4 + 1 + 1
        self.assertEqual(found, [None if (n + w) % 3 == 0 else ((n + 5 * w) % 97 - 48,) for w in range(6)])

    def test_choosers_are_choosers(self):
        transaction = Transaction(SHOP, [Question(SHOP, "rows", "note", ["cents"], where=Always())],
                                  [SetCell("note", 1, "cents"), PutRow("item", 2), Sweep("item", Span([(3, None)]), "left")])
        for store in (Store(SHOP), Store(SHOP, [("note", 1, (7,)), ("item", 5, (1, None))])):
            hearing = transaction.hearing(store, Sight())
            for chooser in (Mixed(3, 5), Mixed(-8, 0), Fixed([None, None, (None, [(3, 1)])])):
                self.assertEqual(chooser(transaction, hearing), chooser(transaction, hearing))
                transaction.effect(store, chooser(transaction, hearing))
