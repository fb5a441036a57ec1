import itertools
import random

from helpers import NO_CONTENTS, KeptCase, all_sights, all_stores
from keptbase.carrying import carried
from keptbase.choosers import Fixed, Mixed
from keptbase.errors import NoSuchEntry
from keptbase.graphs import edges, graph_of
from keptbase.grips import sits
from keptbase.histories import History
from keptbase.layers import between
from keptbase.leaving import can_leave, leave_parting, leave_set
from keptbase.partings import Parting
from keptbase.questions import Question
from keptbase.running import run
from keptbase.schema import Schema, Table
from keptbase.spans import Span
from keptbase.transactions import Transaction
from keptbase.writes import PutRow, SetCell
from scenes import TINY, all_choices, random_history, random_transaction, writers_by_words

STORES = all_stores(TINY)
SIGHTS = all_sights([("a", "low", (None,)), ("a", "low", (0,)), ("a", "odd", (1, 0))])


def subsets(size):
    return [list(chosen) for many in range(size + 1) for chosen in itertools.combinations(range(1, size + 1), many)]


def leaves_by_words(history, numbers):
    """Whether no other entry has a cell in its read area of which one of the entries is the last writer."""
    for entry in range(1, history.size + 1):
        writers = writers_by_words(history, entry, list(range(1, history.seen[entry - 1] + 1)))
        if entry not in numbers and set(writers.values()) & set(numbers):
            return False
    return True


def runs_without(history, numbers, base, sight, choosers):
    """The run of a history and the run without some entries, with the entries that are left."""
    left = [entry for entry in range(1, history.size + 1) if entry not in numbers]
    shorter = run(history.without(numbers), base, sight, [choosers[entry - 1] for entry in left])
    return run(history, base, sight, choosers), shorter, left


class Leaving(KeptCase):
    def test_all_sets_of_entries_of_random_histories(self):
        chance, counts = random.Random(21), {True: 0, False: 0}
        for _ in range(30):
            history = random_history(chance, chance.choice([0, 1, 2, 3, 4]))
            free = [numbers for numbers in subsets(history.size) if leaves_by_words(history, numbers)]
            for numbers in subsets(history.size):
                leaves = numbers in free
                given = chance.sample(numbers, len(numbers)) + numbers[:1]
                for listed in (numbers, given, tuple(given)):
                    self.assert_is(leaves, can_leave(history, listed))
                    self.assertEqual(leave_parting(history, listed) is None, leaves)
                larger = [other for other in free if set(numbers) <= set(other)]
                found = leave_set(history, given)
                self.assertEqual(found, min(larger, key=len))
                self.assertEqual([other for other in larger if len(other) == len(found)], [found])
                counts[leaves] += 1
                if leaves:
                    self.check_hears_the_same(chance, history, numbers)
                else:
                    self.check_parting(history, numbers, leave_parting(history, numbers))
        self.assertGreater(min(counts.values()), 40)

    def check_hears_the_same(self, chance, history, numbers):
        """Whether the other entries hear the same without some, with choosers that listen."""
        for _ in range(2):
            base, sight = chance.choice(STORES), chance.choice(SIGHTS)
            choosers = [Mixed(chance.randint(-50, 50), chance.randint(-3, 3)) for _ in range(history.size)]
            one, other, left = runs_without(history, numbers, base, sight, choosers)
            self.assertEqual(tuple(one.hearings[entry - 1] for entry in left), other.hearings)

    def check_parting(self, history, numbers, found):
        """Whether a parting shows that another entry hears something else."""
        self.assertIs(type(found), Parting)
        self.assertLessEqual(found.base.size, 1)
        self.assertEqual((type(found.choosers), [type(one) for one in found.choosers]), (tuple, [Fixed] * history.size))
        one, other, left = runs_without(history, numbers, found.base, found.sight, found.choosers)
        self.assertIn(found.entry, left)
        self.assertEqual(found.heard, one.hearings[found.entry - 1][found.asked])
        self.assertEqual(found.other, other.hearings[left.index(found.entry)][found.asked])
        self.assertNotEqual(found.heard, found.other)

    def test_exactly_if_no_base_and_choices_part_a_small_history(self):
        chance, seen = random.Random(22), set()
        for _ in range(40):
            pair = [random_transaction(chance) for _ in range(2)]
            if len(all_choices(pair[0])) * len(all_choices(pair[1])) > 40:
                continue
            history = History(TINY, [(pair[0], 0), (pair[1], chance.randint(0, 1))])
            for number in (1, 2):
                self.assert_is(self.leaves_in_all_runs(history, number), can_leave(history, [number]))
                seen.add((number, can_leave(history, [number])))
        self.assertEqual(seen, {(1, True), (1, False), (2, True)})

    def leaves_in_all_runs(self, history, number):
        first, second = history.transactions
        for base, sight in itertools.product(STORES[::4], SIGHTS[::3]):
            for choices in itertools.product(all_choices(first), all_choices(second)):
                one, other, left = runs_without(history, [number], base, sight, [Fixed(choices[0]), Fixed(choices[1])])
                if tuple(one.hearings[entry - 1] for entry in left) != other.hearings:
                    return False
        return True

    def test_without_a_ring(self):
        chance, seen = random.Random(23), set()
        for _ in range(150):
            history = random_history(chance, chance.choice([1, 2, 3, 4]))
            if graph_of(history).ring() is not None:
                continue
            heard = [(x, y) for x, y, kind, _ in edges(history) if kind == "heard"]
            for numbers in subsets(history.size):
                out = [(x, y) for x, y in heard if x in numbers and y not in numbers]
                self.assert_is(out == [], can_leave(history, numbers))
                seen.add(out == [])
                if len(numbers) == 1 and not out:
                    self.check_inverse(chance, history, numbers[0])
        self.assertEqual(seen, {True, False})

    def check_inverse(self, chance, history, number):
        """Whether the inverse of an entry's layer takes the entry out of the end of a run."""
        base, sight = chance.choice(STORES), chance.choice(SIGHTS)
        choosers = [Mixed(chance.randint(-50, 50), chance.randint(-3, 3)) for _ in range(history.size)]
        one, other, _ = runs_without(history, [number], base, sight, choosers)
        layer = between(one.stores[number - 1], one.stores[number])
        self.assertTrue(sits(-layer, one.stores[-1]))
        self.assertEqual(carried(-layer, one.stores[-1]), other.stores[-1])

    def test_layers_without_a_ring(self):
        """In a run the layer of an entry on what it hears on sits where it comes in (point 80)."""
        chance, kept = random.Random(24), 0
        for _ in range(150):
            history = random_history(chance, chance.choice([2, 3, 4]))
            if graph_of(history).ring() is not None:
                continue
            base, sight = chance.choice(STORES), chance.choice(SIGHTS)
            done = run(history, base, sight, [Mixed(chance.randint(-50, 50), chance.randint(-3, 3)) for _ in range(history.size)])
            for at, transaction in enumerate(history.transactions):
                heard_on = done.stores[history.seen[at]]
                layer = between(heard_on, transaction.effect(heard_on, done.choices[at]))
                self.assertTrue(sits(layer, done.stores[at]))
                self.assertEqual(carried(layer, done.stores[at]), done.stores[at + 1])
                kept += history.seen[at] < at
        self.assertGreater(kept, 20)

    def test_edges(self):
        self.assert_is(True, can_leave(History(TINY), []))
        self.assertEqual((leave_set(History(TINY), ()), leave_parting(History(TINY), [])), ([], None))
        idle = History(TINY, [(Transaction(TINY), 0)] * 3)
        self.assertEqual((can_leave(idle, [2]), leave_set(idle, [3, 1]), leave_set(idle, [2, 2])), (True, [1, 3], [2]))
        self.assertEqual(leave_set(idle, [1, 2, 3]), [1, 2, 3])

    def test_who_hears_has_to_go_along(self):
        columns = [("cents", Span.everything()), ("limit", Span.everything())]
        schema = Schema([Table("acct", Span([(1, 9)]), columns)])
        put = Transaction(schema, [], [SetCell("acct", 4, "cents")])
        copy = Transaction(schema, [Question(schema, "sum", "acct", ["cents"])], [SetCell("acct", 5, "limit")])
        total = Transaction(schema, [Question(schema, "sum", "acct", ["limit"])])
        over = Transaction(schema, [], [PutRow("acct", 4)])
        history = History(schema, [(put, 0), (copy, 1), (total, 2), (total, 1)])
        self.assertEqual([leave_set(history, [at]) for at in (1, 2, 3, 4)], [[1, 2, 3], [2, 3], [3], [4]])
        self.assertEqual([can_leave(history, numbers) for numbers in ([1], [2, 3], [3, 2, 1], [1, 2])], [False, True, True, False])
        found = leave_parting(history, [1])
        self.assertEqual((found.entry, found.asked), (2, 0))
        # The last writer of all cells that the reader hears of is the second one, which has heard the first one.
        unheard = History(schema, [(put, 0), (over, 1), (copy, 2)])
        self.assertEqual((leave_set(unheard, [1]), leave_set(unheard, [2])), ([1, 2, 3], [2, 3]))
        late = History(schema, [(put, 0), (over, 0), (copy, 2)])
        self.assertEqual((leave_set(late, [1]), leave_set(late, [2])), ([1], [2, 3]))

    def test_no_such_entry(self):
        put = Transaction(TINY, [], [PutRow("a", 0)])
        history = History(TINY, [(put, 0), (put, 1)])
        for wrong in (0, 3, -1, None, *NO_CONTENTS):
            for call in (can_leave, leave_parting, leave_set):
                self.assert_error(NoSuchEntry, {"entry": wrong}, call, history, [2, wrong, 7])
        for call in (can_leave, leave_parting, leave_set):
            self.assert_error(NoSuchEntry, {"entry": 1}, call, History(TINY), (1,))

    def test_near_the_limits(self):
        schema = Schema([Table("acct", Span([(1, None)]), [("cents", Span.everything()), ("limit", Span.everything())])])
        asks = [Question(schema, kind, "acct", ["cents"]) for kind in ("sum", "rows", "least", "greatest", "first")]
        entries = [(Transaction(schema, asks if at % 2 else [], [PutRow("acct", 6 * at + n + 1) for n in range(6)]), at) for at in range(8)]
        history = History(schema, entries)
        self.assertEqual([leave_set(history, [at]) for at in (8, 7, 1)], [[8], [7, 8], [1, 2, 4, 6, 8]])
        self.check_parting(history, [3, 5], leave_parting(history, [3, 5]))
