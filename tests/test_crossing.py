import itertools
import random

from helpers import KeptCase, all_sights, all_stores, answer_by_words
from keptbase.carrying import carried
from keptbase.choosers import Mixed
from keptbase.conditions import Unseen
from keptbase.crossing import crossing, log_of
from keptbase.graphs import edges, graph_of
from keptbase.grips import sits
from keptbase.histories import History
from keptbase.layers import Layer, between
from keptbase.logs import Log
from keptbase.matching import is_matching, matching_orders
from keptbase.orders import orders
from keptbase.questions import Question
from keptbase.running import run
from keptbase.schema import Schema, Table
from keptbase.spans import Span
from keptbase.stores import Store
from keptbase.taking import can_take_out
from keptbase.transactions import Transaction
from keptbase.writes import PutRow, SetCell, Sweep
from scenes import QUESTIONS, TINY, WRITES, all_choices, random_history, random_transaction

STORES = all_stores(TINY)
SIGHTS = all_sights([("a", "low", (x,)) for x in (None, 0)] + [("a", "odd", (y, x)) for y in (1, 2) for x in (None, 0)])


def random_layer(chance):
    """A layer from one random store to another that is often near."""
    first, second = chance.choice(STORES), chance.choice(STORES)
    layer = between(first, second)
    return layer.inner(Span.of(*chance.sample([-1, 0, 5], 2)))


def random_run(chance, history):
    choosers = [Mixed(chance.randint(-50, 50), chance.randint(-3, 3)) for _ in range(history.size)]
    return run(history, chance.choice(STORES), chance.choice(SIGHTS), choosers)


class LogsOfRuns(KeptCase):
    def test_entries(self):
        chance = random.Random(61)
        for _ in range(60):
            history = random_history(chance, chance.choice([0, 1, 2, 3, 4]))
            done = random_run(chance, history)
            found = log_of(history, done)
            self.assertEqual((type(found), found.schema, found.size, found.seen), (Log, TINY, history.size, history.seen))
            self.assertEqual(found.asks, tuple(transaction.all_asks for transaction in history.transactions))
            self.assertEqual(found.layers, tuple(between(one, other) for one, other in zip(done.stores, done.stores[1:])))
            self.assertTrue(found.bears(done.stores[0]))

    def test_faithful_orders_match(self):
        chance, kept, more = random.Random(62), 0, 0
        for _ in range(150):
            history = random_history(chance, chance.choice([2, 3]))
            faithful = list(orders(graph_of(history)))
            log = log_of(history, random_run(chance, history))
            for order in faithful:
                self.assert_is(True, is_matching(log, order))
            kept += len(faithful)
            more += len(list(matching_orders(log))) - len(faithful)
        self.assertGreater(kept, 150)
        self.assertGreater(more, 20)

    def test_who_is_not_heard_can_be_taken_out(self):
        chance, kept = random.Random(63), 0
        for _ in range(150):
            history = random_history(chance, chance.choice([1, 2, 3]))
            if graph_of(history).ring() is not None:
                continue
            log = log_of(history, random_run(chance, history))
            for number in range(1, history.size + 1):
                if not [x for x, _, kind, _ in edges(history) if kind == "heard" and x == number]:
                    self.assert_is(True, can_take_out(log, number))
                    kept += 1
        self.assertGreater(kept, 100)


class Crossing(KeptCase):
    def test_exactly_if_the_ways_cannot_be_told_apart(self):
        chance, seen = random.Random(64), {True: 0, False: 0}
        for _ in range(200):
            layer, transaction = random_layer(chance), random_transaction(chance)
            if len(all_choices(transaction)) > 25:
                continue
            found = crossing(layer, transaction)
            self.assert_is(found is None, self.cross_by_words(layer, transaction))
            seen[found is None] += 1
            if found is not None:
                self.check_crossing(layer, transaction, found)
        self.assertGreater(min(seen.values()), 30)

    def cross_by_words(self, layer, transaction):
        """Whether on all stores, with all choices, both ways end alike and are told the same (point 90)."""
        for store in STORES:
            if not layer.fits(store):
                continue
            led = layer.lead(store)
            sights = SIGHTS if any(question.where.leaves() for question in transaction.asks) else SIGHTS[:1]
            if any(transaction.hearing(store, sight) != transaction.hearing(led, sight) for sight in sights):
                return False
            for choices in all_choices(transaction):
                effect = transaction.effect(store, choices)
                if not sits(layer, effect) or carried(layer, effect) != transaction.effect(led, choices):
                    return False
        return True

    def check_crossing(self, layer, transaction, found):
        """Whether what is told shows that an ask hears the layer, and no earlier one does."""
        self.assertIs(type(found), tuple)
        asked, store, sight, before, behind = found
        question = transaction.all_asks[asked]
        self.assertEqual(store, layer.old.as_store())
        for one, told in ((store, before), (layer.lead(store), behind)):
            expected = answer_by_words(question, one, sight)
            self.assertEqual((type(told), told), (type(expected), expected))
        self.assertNotEqual(before, behind)
        for earlier in transaction.all_asks[:asked]:
            for one, other in itertools.product([one for one in STORES if layer.fits(one)], SIGHTS):
                self.assertEqual(answer_by_words(earlier, one, other), answer_by_words(earlier, layer.lead(one), other))

    def test_all_sights_matter(self):
        schema = Schema([Table("a", Span.read("1.."), [("n", Span.numbers())], [("odd", ["n"])])])
        layer = Layer(schema, [("a", 1, (7,), (8,))])
        swap = Layer(schema, [("a", 1, (7,), (8,)), ("a", 2, (8,), (7,))])
        question = Question(schema, "sum", "a", ["n"], where=Unseen("odd"))
        found = crossing(layer, Transaction(schema, [Question(schema, "count", "a"), question]))
        self.assertEqual(found[:2], (1, Store(schema, [("a", 1, (7,))])))
        self.assertEqual(found[3:], (7 if found[2].holds(("a", "odd", (7,))) else 0, 8 if found[2].holds(("a", "odd", (8,))) else 0))
        self.assertNotEqual(found[3], found[4])
        self.assertIsNone(crossing(swap, Transaction(schema, [question])))
        self.assertEqual(crossing(swap, Transaction(schema, [question], [SetCell("a", 2, "n")]))[0], 1)

    def test_edges(self):
        put = Layer(TINY, [("b", 5, None, (1,))])
        self.assertIsNone(crossing(Layer(TINY), Transaction(TINY, QUESTIONS, WRITES[4:7])))
        self.assertIsNone(crossing(put, Transaction(TINY)))
        self.assertIsNone(crossing(put, Transaction(TINY, [], [Sweep("a", Span(), "y"), PutRow("a", 0)])))
        found = crossing(-put, Transaction(TINY, [], [PutRow("a", 0), SetCell("b", 5, "x")]))
        self.assertEqual((found[0], found[1], found[3], found[4]), (1, Store(TINY, [("b", 5, (1,))]), [(1,)], []))

    def test_no_history_entries(self):
        history = History(TINY)
        self.assertEqual(log_of(history, run(history, STORES[-1], SIGHTS[0], [])).size, 0)
