import itertools
import random

from helpers import NO_CONTENTS, KeptCase, all_sights, all_stores
from keptbase.areas import Area
from keptbase.choosers import Fixed, Mixed
from keptbase.errors import InvalidOrder
from keptbase.graphs import graph_of
from keptbase.histories import History
from keptbase.orders import first_order, keeps
from keptbase.partings import Parting, last_writers, parting
from keptbase.questions import Question
from keptbase.running import run, run_in_order
from keptbase.schema import Schema, Table
from keptbase.spans import Span
from keptbase.stores import Store
from keptbase.transactions import Transaction, independent
from keptbase.writes import PutRow, SetCell, Sweep
from scenes import CELLS, QUESTIONS, TINY, all_choices, random_history, random_transaction, writers_by_words

STORES = all_stores(TINY)
SIGHTS = all_sights([("a", "low", (None,)), ("a", "low", (0,)), ("a", "odd", (1, 0))])


def histories(seed, many, sizes):
    chance = random.Random(seed)
    return [random_history(chance, chance.choice(sizes)) for _ in range(many)]


def mixed_choosers(chance, history):
    return [Mixed(chance.randint(-50, 50), chance.randint(-3, 3)) for _ in range(history.size)]


def heard_by(history, entry, order):
    """The entries ahead of an entry: those that it saw, or in an order those that stand ahead of it."""
    return list(range(1, history.seen[entry - 1] + 1)) if order is None else order[:order.index(entry)]


def same_last_writers(history, order):
    return all(writers_by_words(history, entry, heard_by(history, entry, None))
               == writers_by_words(history, entry, heard_by(history, entry, order)) for entry in order)


class LastWriters(KeptCase):
    def test_on_all_cells(self):
        chance = random.Random(2)
        for history in histories(1, 60, [1, 2, 3, 4, 5]):
            for entry in range(1, history.size + 1):
                others = [number for number in range(1, history.size + 1) if number != entry]
                ahead = chance.sample(others, chance.randint(0, len(others)))
                found = last_writers(history, entry, ahead)
                self.assertIs(type(found), list)
                self.assertTrue(all(type(pair) is tuple and type(pair[1]) is Area and pair[1] for pair in found))
                self.assertEqual([(writer, area) for writer, area in found], last_writers(history, entry, tuple(ahead)))
                told = {cell: writer for writer, area in found for cell in area.cells()}
                self.assertEqual(sum(area.size for _, area in found), len(told))
                self.assertEqual(told, writers_by_words(history, entry, ahead))
                places = [len(ahead) - ahead.index(writer) if writer else len(ahead) + 1 for writer, _ in found]
                self.assertEqual(places, sorted(set(places)))

    def test_edges(self):
        put, none = Transaction(TINY, [], [PutRow("a", 0)]), Transaction(TINY)
        count = Transaction(TINY, [Question(TINY, "count", "b")])
        history = History(TINY, [(put, 0), (none, 0), (count, 0), (put, 0)])
        area = Area.of(TINY, [("a", 0, "there"), ("a", 0, "x"), ("a", 0, "y")])
        self.assertEqual(last_writers(history, 1, []), [(0, area)])
        self.assertEqual(last_writers(history, 4, [1, 2, 3]), [(1, area)])
        self.assertEqual(last_writers(history, 2, [1, 3, 4]), [])
        self.assertEqual(last_writers(history, 3, [4, 1]), [(0, Area(TINY, [("b", "there", Span.of(5))]))])

    def test_an_endless_area(self):
        schema = Schema([Table("acct", Span([(1, None)]), [("cents", Span.everything())])])
        sweep = Transaction(schema, [], [Sweep("acct", Span([(5, None)]), "cents")])
        total = Transaction(schema, [Question(schema, "sum", "acct", ["cents"])])
        cell = Transaction(schema, [], [SetCell("acct", 7, "cents")])
        found = last_writers(History(schema, [(sweep, 0), (cell, 0), (total, 2)]), 3, [1, 2])
        self.assertEqual([writer for writer, _ in found], [2, 1, 0])
        self.assertEqual(str(found[1][1].span_of("acct", "cents")), "5..6, 8..")
        self.assertEqual([str(found[2][1].span_of("acct", field)) for field in ("there", "cents")], ["1..", "1..4"])


class Partings(KeptCase):
    def check_parting(self, history, found, other, entry_place):
        """Whether a parting shows what it says; other is the other run with its choosers."""
        self.assertIs(type(found), Parting)
        self.assertEqual(list(vars(found)), ["base", "sight", "choosers", "entry", "asked", "heard", "other"])
        self.assertIs(type(found.base), Store)
        self.assertLessEqual(found.base.size, 1)
        self.assertIs(type(found.choosers), tuple)
        self.assertEqual([type(chooser) for chooser in found.choosers], [Fixed] * history.size)
        one = run(history, found.base, found.sight, found.choosers)
        self.assertEqual(found.heard, one.hearings[found.entry - 1][found.asked])
        self.assertEqual(found.other, other(found).hearings[entry_place(found.entry) - 1][found.asked])
        self.assertNotEqual(found.heard, found.other)
        self.assertEqual(type(found.heard) is list, False)

    def test_all_orders_of_random_histories(self):
        counts = {True: 0, False: 0}
        for history in histories(3, 150, [0, 1, 2, 2, 3, 3, 3]) + histories(33, 10, [4]):
            graph = graph_of(history)
            for order in itertools.permutations(range(1, history.size + 1)):
                order = list(order)
                faithful = keeps(graph, order)
                self.assertEqual(same_last_writers(history, order), faithful)
                found = parting(history, order)
                self.assert_is(faithful, found is None)
                counts[faithful] += 1
                if found is not None:
                    self.check_parting(history, found, lambda told: run_in_order(history, order, told.base, told.sight, told.choosers),
                                       lambda entry: entry)
        self.assertGreater(min(counts.values()), 80)

    def test_faithful_orders_part_nothing(self):
        chance, kept = random.Random(4), 0
        for history in histories(5, 120, [2, 3, 4]):
            order = first_order(graph_of(history))
            if order is None:
                continue
            kept += 1
            for _ in range(5):
                base, sight, choosers = chance.choice(STORES), chance.choice(SIGHTS), mixed_choosers(chance, history)
                one, other = run(history, base, sight, choosers), run_in_order(history, order, base, sight, choosers)
                self.assertEqual((one.hearings, one.stores[-1]), (other.hearings, other.stores[-1]))
        self.assertGreater(kept, 50)

    def test_exactly_if_some_base_and_choices_part_a_small_history(self):
        """Each pair of transactions in both orders, on all stores, with all choices, under all sights."""
        chance, seen = random.Random(6), set()
        for _ in range(35):
            pair = [random_transaction(chance) for _ in range(2)]
            if len(all_choices(pair[0])) * len(all_choices(pair[1])) > 40:
                continue
            history = History(TINY, [(pair[0], 0), (pair[1], chance.randint(0, 1))])
            for order in ([1, 2], [2, 1]):
                self.assertEqual(self.is_faithful_by_words(history, order), parting(history, order) is None)
                seen.add(parting(history, order) is None)
        self.assertEqual(seen, {True, False})

    def is_faithful_by_words(self, history, order):
        first, second = history.transactions
        for base, sight in itertools.product(STORES[::4], SIGHTS[::3]):
            for choices in itertools.product(all_choices(first), all_choices(second)):
                choosers = [Fixed(choices[0]), Fixed(choices[1])]
                one, other = run(history, base, sight, choosers), run_in_order(history, order, base, sight, choosers)
                if one.hearings != other.hearings:
                    return False
                # Choosers that depend on the hearing choose the same here, for the hearings are the same.
                if one.stores[-1] != other.stores[-1]:
                    return False
        return True

    def test_each_way_to_write_and_to_miss(self):
        """One writer and one reader of each cell, in all forms of writes, with a base that has and has not a row."""
        for write, question in itertools.product([SetCell("a", 0, "x"), PutRow("a", 0), Sweep("a", Span.everything(), "y"),
                                                  Sweep("a", Span.of(0, 3), "x"), PutRow("b", 5), SetCell("b", 5, "x")], QUESTIONS):
            writer, reader = Transaction(TINY, [], [write]), Transaction(TINY, [question])
            meets = writer.write_area.meets(reader.read_area)
            for entries, order in (([(writer, 0), (reader, 1)], (2, 1)), ([(writer, 0), (reader, 0)], (1, 2)),
                                   ([(reader, 0), (writer, 0)], (2, 1)), ([(reader, 0), (writer, 1)], [2, 1])):
                history = History(TINY, entries)
                found = parting(history, order)
                self.assertEqual(found is not None, meets)
                if found is not None:
                    self.check_parting(history, found, lambda told: run_in_order(history, order, told.base, told.sight, told.choosers),
                                       lambda entry: entry)
                    self.assertEqual(found.entry, 1 + entries.index([one for one in entries if one[0] is reader][0]))
                    self.assertEqual(found.asked, 0)

    def test_sweeps_and_cells_where_the_base_has_no_row(self):
        """The parting needs a row that only one entry puts, and writes into it by others."""
        put = Transaction(TINY, [], [PutRow("a", 0), SetCell("a", -1, "x"), PutRow("b", 5)])
        fill = Transaction(TINY, [], [Sweep("a", Span.everything(), "y"), SetCell("a", 0, "x")])
        count = Transaction(TINY, [Question(TINY, "count", "a", where=QUESTIONS[0].where)])
        history = History(TINY, [(put, 0), (fill, 1), (count, 2)])
        self.assertIsNone(parting(history, [1, 2, 3]))
        for order in itertools.permutations((1, 2, 3)):
            found = parting(history, list(order))
            if order != (1, 2, 3):
                self.check_parting(history, found, lambda told: run_in_order(history, order, told.base, told.sight, told.choosers),
                                   lambda entry: entry)

    def test_no_entry_and_one(self):
        self.assertIsNone(parting(History(TINY), []))
        for transaction in (Transaction(TINY), Transaction(TINY, QUESTIONS[:3], [PutRow("a", 0)])):
            self.assertIsNone(parting(History(TINY, [(transaction, 0)]), [1]))
            self.assertIsNone(parting(History(TINY, [(transaction, 0)]), (1,)))

    def test_invalid_orders(self):
        put = Transaction(TINY, [], [PutRow("a", 0)])
        history = History(TINY, [(put, 0), (put, 1)])
        for order in ([], [1], [1, 1], [2, 1, 3], [0, 1], (1,), [None, 1], *[[value, 2] for value in NO_CONTENTS]):
            self.assert_error(InvalidOrder, {"listing": tuple(order)}, parting, history, order)
        self.assert_error(InvalidOrder, {"listing": (1,)}, parting, History(TINY), [1])

    def test_near_the_limits(self):
        columns = [(name, Span.everything()) for name in "wxyz"]
        schema = Schema([Table(f"t{at}", Span([(1, None)]), columns, [("odd", ["w"])]) for at in range(4)])
        entries = []
        for at in range(8):
            asks = [Question(schema, kind, f"t{(at + n) % 4}", ["x"]) for n, kind in enumerate(("sum", "rows", "least", "first") * 2)][:6]
            writes = [PutRow(f"t{at % 4}", at + 1), SetCell(f"t{at % 4}", at + 2, "x"), Sweep(f"t{at % 4}", Span([(50, 60)]), "y")]
            entries.append((Transaction(schema, asks, writes), at))
        history = History(schema, entries)
        self.assertIsNone(parting(history, list(range(1, 9))))
        order = [1, 2, 3, 4, 5, 6, 8, 7]
        self.check_parting(history, parting(history, order),
                           lambda told: run_in_order(history, order, told.base, told.sight, told.choosers), lambda entry: entry)


class Point80(KeptCase):
    def test_the_order_as_they_came(self):
        missed = 0
        for history in histories(7, 150, [1, 2, 3, 4]):
            kinds = [kind for _, _, kind, _ in edges_of(history)]
            missed += "missed" in kinds
            self.assertEqual(parting(history, list(range(1, history.size + 1))) is None, "missed" not in kinds)
        self.assertGreater(missed, 10)

    def test_one_entry_more(self):
        chance, seen = random.Random(9), set()
        for history in histories(8, 150, [1, 2, 3]):
            if graph_of(history).ring() is not None:
                continue
            longer = history.with_entry(random_transaction(chance), chance.randint(0, history.size))
            path = graph_of(longer).path(longer.size, longer.size)
            self.assertEqual(path is None, graph_of(longer).ring() is None)
            if path is not None:
                self.assertIn("missed", [kind for x, y, kind, _ in edges_of(longer) if [x, y] == path[:2]])
            seen.add(path is None)
        self.assertEqual(seen, {True, False})

    def test_independent_exactly_if_both_orders_part_nothing(self):
        chance = random.Random(10)
        for _ in range(60):
            first, second = random_transaction(chance), random_transaction(chance)
            orders = [parting(History(TINY, [(first, 0), (second, 0)]), order) for order in ([1, 2], [2, 1])]
            self.assert_is(orders == [None, None], independent(first, second))
            if not independent(first, second):
                continue
            for base, sight in itertools.product(STORES[::9], SIGHTS[::3]):
                choosers = [Mixed(chance.randint(-50, 50), chance.randint(-3, 3)) for _ in range(2)]
                one, other = [run_in_order(History(TINY, [(first, 0), (second, 0)]), order, base, sight, choosers)
                              for order in ([1, 2], [2, 1])]
                self.assertEqual((one.hearings, one.stores[-1]), (other.hearings, other.stores[-1]))


def edges_of(history):
    """The edges, told from point 75 with the cells of the tiny schema."""
    found = []
    for i, j in itertools.permutations(range(1, history.size + 1), 2):
        cells = [cell for cell in CELLS if cell in history.transactions[i - 1].write_area
                 and cell in history.transactions[j - 1].read_area]
        if cells:
            heard = i <= history.seen[j - 1]
            found.append((i, j, "heard", cells[0]) if heard else (j, i, "missed" if i < j else "ahead", cells[0]))
    return found
