import itertools
import random

from helpers import KeptCase, all_sights, all_stores, tiny_schema
from keptbase.choosers import Fixed, Mixed
from keptbase.conditions import CellIn, KeyIn, Unseen
from keptbase.errors import InvalidChoice, InvalidOrder
from keptbase.graphs import graph_of
from keptbase.histories import History
from keptbase.orders import keeps
from keptbase.questions import Question
from keptbase.running import Run, run, run_in_order
from keptbase.sights import Sight
from keptbase.spans import Span
from keptbase.stores import Store
from keptbase.transactions import Transaction
from keptbase.writes import PutRow, SetCell, Sweep

TINY = tiny_schema()
STORES = all_stores(TINY)
SIGHTS = all_sights([("a", "low", (None,)), ("a", "low", (0,))])
ASKS = [[], [Question(TINY, "count", "a", where=CellIn("x", Span.of(0)))], [Question(TINY, "some", "a", where=Unseen("low"))],
        [Question(TINY, "rows", "b", ["x"]), Question(TINY, "first", "a", ["y"], where=KeyIn(Span.of(0)))]]
WRITES = [[], [SetCell("a", -1, "x")], [PutRow("a", 0)], [PutRow("b", 5)], [Sweep("a", Span.everything(), "y")],
          [SetCell("a", 0, "x"), SetCell("b", 5, "x")]]
LISTED = [Transaction(TINY, asks, writes) for asks, writes in itertools.product(ASKS, WRITES)]


def random_history(chance, size):
    return History(TINY, [(chance.choice(LISTED), chance.randint(0, at)) for at in range(size)])


class Noting:
    """A chooser that writes down its calls."""

    def __init__(self, number, notes, choices):
        self.number = number
        self.notes = notes
        self.choices = choices

    def __call__(self, transaction, hearing):
        self.notes.append((self.number, transaction, hearing))
        return self.choices


class Runs(KeptCase):
    def check_run(self, history, found, turns, base, sight, choosers, heard_on):
        """Whether a run is as point 74 says; heard_on tells for an entry and the stores so far which one it hears on."""
        self.assertIs(type(found), Run)
        self.assertEqual([type(found.turns), type(found.stores), type(found.hearings), type(found.choices)], [tuple] * 4)
        self.assertEqual(found.turns, tuple(turns))
        stores, hearings, choices = [base], {}, {}
        for number in turns:
            transaction = history.transactions[number - 1]
            hearings[number] = transaction.hearing(heard_on(number, stores), sight)
            chosen = choosers[number - 1](transaction, hearings[number])
            choices[number] = tuple(chosen)
            stores.append(transaction.effect(stores[-1], chosen))
        self.assertEqual(found.stores, tuple(stores))
        self.assertEqual(found.hearings, tuple(hearings[number] for number in sorted(turns)))
        self.assertEqual(found.choices, tuple(choices[number] for number in sorted(turns)))

    def test_runs_and_runs_in_orders(self):
        chance = random.Random(5)
        for size in (0, 1, 2, 3, 4, 5):
            for _ in range(25):
                history, base, sight = random_history(chance, size), chance.choice(STORES), chance.choice(SIGHTS)
                choosers = [Mixed(chance.randint(-50, 50), chance.randint(-3, 3)) for _ in range(size)]
                found = run(history, base, sight, choosers)
                turns = list(range(1, size + 1))
                self.check_run(history, found, turns, base, sight, choosers,
                               lambda number, stores, seen=history.seen: stores[seen[number - 1]])
                order = chance.sample(turns, size)
                for given in (order, tuple(order)):
                    other = run_in_order(history, given, base, sight, tuple(choosers))
                    self.check_run(history, other, order, base, sight, choosers, lambda number, stores: stores[-1])

    def test_orders_that_keep_all_arrows_tell_each_entry_the_same(self):
        chance, kept = random.Random(8), 0
        for _ in range(60):
            history = random_history(chance, 3)
            graph = graph_of(history)
            for order in itertools.permutations((1, 2, 3)):
                if not keeps(graph, order):
                    continue
                kept += 1
                for _ in range(4):
                    base, sight = chance.choice(STORES), chance.choice(SIGHTS)
                    choosers = [Mixed(chance.randint(-50, 50), chance.randint(-3, 3)) for _ in range(3)]
                    one, other = run(history, base, sight, choosers), run_in_order(history, order, base, sight, choosers)
                    self.assertEqual(one.hearings, other.hearings)
                    self.assertEqual(one.choices, other.choices)
                    self.assertEqual(one.stores[-1], other.stores[-1])
        self.assertGreater(kept, 40)

    def test_orders_that_do_not_are_told_apart(self):
        put = Transaction(TINY, [], [PutRow("a", 0)])
        count = Transaction(TINY, [Question(TINY, "count", "a")])
        history = History(TINY, [(put, 0), (count, 1)])
        choosers = [Fixed([(0, 1)]), Fixed([])]
        one, other = [run_in_order(history, order, Store(TINY), Sight(), choosers) for order in ([1, 2], [2, 1])]
        self.assertEqual((one.hearings, other.hearings), ((((),), (1,)), (((),), (0,))))
        self.assertEqual(run(history, Store(TINY), Sight(), choosers).hearings, one.hearings)
        self.assertEqual(run(History(TINY, [(put, 0), (count, 0)]), Store(TINY), Sight(), choosers).hearings, other.hearings)

    def test_each_chooser_is_called_once_in_its_turn(self):
        transactions = [Transaction(TINY, ASKS[1], [SetCell("a", -1, "x")]), Transaction(TINY, ASKS[1]),
                        Transaction(TINY, [], [PutRow("b", 5)])]
        history = History(TINY, [(transactions[0], 0), (transactions[1], 0), (transactions[2], 2)])
        base = Store(TINY, [("a", -1, (0, 1)), ("b", 5, (1,))])
        for order in (None, [3, 1, 2], [2, 3, 1]):
            notes = []
            choosers = [Noting(at + 1, notes, choices) for at, choices in enumerate(([None], [], [(0,)]))]
            if order is None:
                found = run(history, base, Sight(), choosers)
            else:
                found = run_in_order(history, order, base, Sight(), choosers)
            self.assertEqual([number for number, _, _ in notes], list(found.turns))
            for number, transaction, hearing in notes:
                self.assertIs(transaction, transactions[number - 1])
                self.assertEqual(hearing, found.hearings[number - 1])
            self.assertEqual(found.choices, ((None,), (), ((0,),)))

    def test_pairs_of_sweeps_by_ascending_keys(self):
        sweep = Transaction(TINY, [], [Sweep("a", Span.everything(), "y"), SetCell("a", 0, "x")])
        history = History(TINY, [(sweep, 0)])
        for pairs in ([(0, 1), (-1, 2)], ((0, 1), (-1, 2)), [(-1, 2), (0, 1)]):
            given = [(1, pairs), None]
            for found in (run(history, Store(TINY), Sight(), [Noting(1, [], given)]),
                          run_in_order(history, [1], Store(TINY), Sight(), [Noting(1, [], tuple(given))])):
                self.assertEqual(found.choices, (((1, ((-1, 2), (0, 1))), None),))
                self.assertIs(type(found.choices[0][0][1]), tuple)
            self.assertEqual(given, [(1, pairs), None])
        for pairs in ([], ()):
            self.assertEqual(run(history, Store(TINY), Sight(), [Fixed([(2, pairs), 0])]).choices, (((2, ()), 0),))

    def test_invalid_choices(self):
        put = Transaction(TINY, [], [PutRow("a", 0), PutRow("b", 5)])
        history = History(TINY, [(put, 0), (put, 0)])
        for choices, number in (([None], 1), ([None, None, None], 2), ([(0, 1), (7,)], 1), ([], 0), ([[0, 1], None], 0)):
            for at in (0, 1):
                choosers = [Fixed([None, None]), Fixed([None, None])]
                choosers[at] = Fixed(choices)
                told = {"number": number}
                self.assert_error(InvalidChoice, told, run, history, Store(TINY), Sight(), choosers)
                self.assert_error(InvalidChoice, told, run_in_order, history, [2, 1], Store(TINY), Sight(), choosers)

    def test_invalid_orders(self):
        put = Transaction(TINY, [], [PutRow("a", 0)])
        history = History(TINY, [(put, 0), (put, 0)])
        for order in ([], [1], [1, 1], [1, 2, 3], [0, 1], (2,), ["1", 2], [True, 2], [None, 1]):
            told, notes = {"listing": tuple(order)}, []
            choosers = [Noting(1, notes, ["wrong"]), Noting(2, notes, [])]
            self.assert_error(InvalidOrder, told, run_in_order, history, order, Store(TINY), Sight(), choosers)
            self.assertEqual(notes, [])
