"""Points 0.3 and 0.4: tuples in the place of lists, nothing changed behind a call, limits that raise nothing."""

from helpers import KeptCase, shop_schema
from keptbase.answers import answer, less
from keptbase.areas import Area
from keptbase.choosers import Fixed, Mixed
from keptbase.conditions import Both, CellIn, KeyIn, Unseen
from keptbase.errors import KeptError
from keptbase.footprints import footprint
from keptbase.formal import FormTable, formal, read_answer
from keptbase.forms import Form
from keptbase.graphs import Graph, graph_of
from keptbase.histories import History
from keptbase.layers import Layer
from keptbase.looks import changed_by, look
from keptbase.mending import mended
from keptbase.orders import order_count
from keptbase.parts import Part
from keptbase.pieces import pieces, samples
from keptbase.questions import Question
from keptbase.reach import reaching
from keptbase.rows import picked
from keptbase.running import run, run_in_order
from keptbase.schema import Schema, Table
from keptbase.sights import Sight
from keptbase.spans import Span
from keptbase.stores import Store
from keptbase.transactions import Transaction
from keptbase.witnesses import alike, hiding, witness
from keptbase.writes import PutRow, SetCell, Sweep

SHOP = shop_schema()
BIG = 10 ** 12


class Conventions(KeptCase):
    def test_tuples_in_the_place_of_lists(self):
        rows = [("item", 4, (7, None)), ("note", -3, (1,))]
        places = [("item", 4), ("note", 0)]
        cells = [("item", 4, "left"), ("note", 0, "there")]
        store = Store(SHOP, rows)
        self.assertEqual(Store(SHOP, tuple(rows)), store)
        self.assertEqual(Part(SHOP, tuple(rows)), Part(SHOP, rows))
        self.assertEqual(Part.of(store, tuple(places)), Part.of(store, places))
        self.assertEqual(Area.of(SHOP, tuple(cells)), Area.of(SHOP, cells))
        self.assertEqual(Schema(tuple(SHOP)), SHOP)
        self.assertEqual(picked(SHOP.table_of("item"), (7, None), ("left",)), (None,))
        self.assertEqual(samples(Span.of(1), (Span.of(1),), 1), [1])

    def test_no_call_changes_what_it_is_given(self):
        rows, cells, cuts = [("note", 5, (1,)), ("item", 4, (7, 1))], [("note", 1, "there"), ("item", 2, "left")], []
        before = (list(rows), list(cells))
        store = Store(SHOP, rows)
        Part(SHOP, rows).joined(Part.of(store, store.places())).laid_on(store)
        Area.of(SHOP, cells)
        pieces(Span.numbers(), cuts)
        self.assertEqual(((rows, cells), cuts), (before, []))

    def test_errors_leave_objects_as_they_were(self):
        store = Store(SHOP, [("item", 4, (7, 1))])
        part = Part(SHOP, [("item", 4, None)])
        calls = [lambda: store.put("item", 4, (7,)), lambda: store.written("item", 4, "left", 10),
                 lambda: store.without("item", 0), lambda: part.joined(Part(SHOP, list(store))),
                 lambda: part.image("item", 5)]
        for call in calls:
            with self.assertRaises(KeptError):
                call()
            self.assertEqual((list(store), list(part)), ([("item", 4, (7, 1))], [("item", 4, None)]))

    def test_a_little_beyond_the_limits(self):
        span = Span([(3 * at, 3 * at + 1) for at in range(14)])
        self.assertEqual((len(span.stretches), span.size), (14, 28))
        columns = [(name, Span.numbers()) for name in "wxyz"]
        tables = [Table(f"t{at}", Span.numbers(), columns, [(f"s{n}", ["x"]) for n in range(5)]) for at in range(6)]
        schema = Schema(tables)
        self.assertEqual((len(schema.tables), len(tables[0].tests)), (6, 5))
        store = Store(schema, [("t5", key, (key, BIG + key, -BIG, 0)) for key in range(50)])
        self.assertEqual((store.size, store.row("t5", 49)), (50, (49, BIG + 49, -BIG, 0)))
        self.assertEqual(Area.of(schema, [("t0", 2 * key, "x") for key in range(50)]).size, 50)

    def test_integers_of_the_largest_size(self):
        for key in (BIG, -BIG):
            store = Store(SHOP, [("note", key, (-key,))])
            self.assertEqual((store.places(), store.row("note", key)), ([("note", key)], (-key,)))
            self.assertEqual(store.written("note", key, "cents", key).row("note", key), (key,))
            self.assertEqual(Part.of(store, [("note", key)]).image("note", key), (-key,))
            self.assertEqual(Area.of(SHOP, [("note", key, "there")]).one(), ("note", key, "there"))


class Questions(KeptCase):
    """The same for questions, forms, transactions and histories."""

    def setUp(self):
        columns = [(name, Span.everything()) for name in "wxyz"]
        tests = [("p", ["w", "x"]), ("q", ["y", "z", "w"]), ("r", ["x"])]
        self.schema = Schema([Table("t", Span.numbers(), columns, tests)])
        spans = [Span([(at + 50 * step, at + 50 * step + 20) for step in range(14)], has_none=at % 2 == 0) for at in range(6)]
        where = Both(KeyIn(Span([(-BIG, 5), (9, BIG)])), ~(CellIn("w", spans[0]) & CellIn("x", spans[1])),
                     CellIn("y", spans[2]) | (CellIn("z", spans[3]) & ~CellIn("w", spans[4])), Unseen("p") | Unseen("q"), Unseen("r"))
        shown = {"count": [], "sum": ["x"], "rows": ["z", "key"], "some": [], "least": ["w"], "greatest": ["w"], "first": ["x"]}
        self.asks = [Question(self.schema, kind, "t", shown[kind], where=where) for kind in shown]
        rows = [("t", key, (key % 2, key % 3, 50, key * BIG // 50)) for key in range(45)]
        self.store = Store(self.schema, rows)
        self.sight = Sight([("t", "q"), ("t", "r")], [("t", "r", (2,))])

    def test_a_little_beyond_the_limits(self):
        for question in self.asks:
            found = answer(question, self.store, self.sight)
            forms = formal(question, self.store)
            self.assertEqual(read_answer(question, forms, self.sight), found)
            area = footprint(question)
            self.assertTrue(area)
            for cell in (("t", BIG, "there"), ("t", -BIG, "w"), ("t", 0, "z")):
                self.assertEqual(witness(question, cell) is None, cell not in area)
            self.assertEqual(hiding(question) is None, question.heaping)
            self.assert_is(True, alike(question, question.narrowed(question.where)))
            key, row, sight = reaching(question, {})
            self.assertTrue(question.where.counts(self.schema.table_of("t"), key, row, sight))
            layer = Layer(self.schema, [("t", key, row, None) for _, key, row in list(self.store)[:14]])
            kept = mended(question, layer, self.sight, found)
            self.assertIn(kept, ([], [answer(question, layer.lead(self.store), self.sight)]))

    def test_many_asks_writes_and_entries(self):
        writes = [SetCell("t", BIG, "w"), PutRow("t", -BIG), Sweep("t", Span([(50, None)]), "x"), *[PutRow("t", key) for key in range(5)]]
        transaction = Transaction(self.schema, self.asks, writes)
        self.assertEqual(len(transaction.all_asks), 15)
        alone = Transaction(self.schema, [], [SetCell("t", 7, "w")])
        history = History(self.schema, [(transaction, at // 2) if at % 2 else (alone, at) for at in range(9)])
        self.assertIsNotNone(graph_of(history).ring())
        choosers = [Mixed(at, 3) for at in range(9)]
        done = run(history, self.store, self.sight, choosers)
        self.assertEqual(len(done.stores), 10)
        self.assertEqual(run_in_order(history, list(range(9, 0, -1)), self.store, self.sight, choosers).turns, tuple(range(9, 0, -1)))
        self.assertEqual(order_count(Graph(9, [(9, 1)])), 181440)

    def test_tuples_in_the_place_of_lists(self):
        rows = Question(self.schema, "rows", "t", ("z", "key"))
        self.assertEqual(less(rows, ((1, 2), (None, 3)), ((1, 2),)), [(None, 3)])
        sign = ("t", "r", (2,))
        self.assertEqual(Form((((sign,), 2),)), 2 * Form.of(sign))
        self.assertEqual(FormTable((((1, 2), Form.of(sign)),)), FormTable([((1, 2), Form.of(sign))]))
        self.assertEqual(Form.of(sign).when((sign,)), 1)
        self.assertEqual(changed_by(rows, ((1, 2),), look(rows, Layer(self.schema)), Sight()), [(1, 2)])
        put = Transaction(self.schema, (rows,), (PutRow("t", 1),))
        history = History(self.schema, ((put, 0), (put, 1)))
        choosers = (Fixed((None,)), Fixed((None,)))
        self.assertEqual(run_in_order(history, (2, 1), self.store, Sight(), choosers).turns, (2, 1))
        self.assertEqual(history.without((1,)).size, 1)
        self.assertEqual(Graph(2, ((1, 2),)).arrows, ((1, 2),))

    def test_errors_leave_objects_as_they_were(self):
        put = Transaction(self.schema, [], [PutRow("t", 1)])
        history = History(self.schema, [(put, 0), (put, 1)])
        graph = Graph(2, [(1, 2)])
        before = list(self.store)
        calls = [lambda: put.effect(self.store, [(1, 2)]), lambda: history.with_entry(put, 3), lambda: history.without([3]),
                 lambda: run(history, self.store, Sight(), [Fixed([None]), Fixed([])]),
                 lambda: run_in_order(history, [1], self.store, Sight(), []), lambda: Transaction(self.schema, [], [PutRow("t", None)])]
        for call in calls:
            with self.assertRaises(KeptError):
                call()
            self.assertEqual((list(self.store), history.size, history.seen, graph.arrows), (before, 2, (0, 1), ((1, 2),)))
