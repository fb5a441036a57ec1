import itertools
import random

from helpers import NO_CONTENTS, KeptCase
from keptbase.conditions import KeyIn
from keptbase.errors import InvalidArrow
from keptbase.graphs import Graph, edges, graph_of
from keptbase.histories import History
from keptbase.questions import Question
from keptbase.schema import Schema, Table
from keptbase.spans import Span
from keptbase.transactions import Transaction
from keptbase.writes import PutRow, SetCell, Sweep

ACCT = Schema([Table("acct", Span([(1, 9)]), [("cents", Span.everything()), ("limit", Span.numbers())])])
PAIRS = list(itertools.permutations(range(1, 4), 2))


def small_graphs():
    """All graphs of up to 3 nodes, and some of more."""
    found = [Graph(size, arrows) for size in range(3) for many in range(3)
             for arrows in itertools.combinations(list(itertools.permutations(range(1, size + 1), 2)), many)]
    found += [Graph(3, arrows) for many in range(7) for arrows in itertools.combinations(PAIRS, many)]
    chance = random.Random(3)
    for _ in range(60):
        size = chance.randint(4, 6)
        arrows = [tuple(chance.sample(range(1, size + 1), 2)) for _ in range(chance.randint(2, 9))]
        found.append(Graph(size, arrows))
    return found


def walks(graph, start, many):
    """All lists of nodes along so many arrows from a node."""
    if many == 0:
        return [[start]]
    return [[start, *rest] for one, node in graph.arrows if one == start for rest in walks(graph, node, many - 1)]


def random_history(chance):
    """A history with many kinds of transactions."""
    spans = [Span.of(chance.randint(1, 9)), Span([(chance.randint(1, 5), 5)]), Span()]
    entries = []
    for at in range(chance.randint(0, 6)):
        asks = [Question(ACCT, kind, "acct", shown, where=KeyIn(chance.choice(spans)))
                for kind, shown in (("sum", ["cents"]), ("some", []), ("rows", ["limit"])) if chance.random() < 0.3]
        writes = [write for write in (SetCell("acct", chance.randint(1, 3), "cents"), PutRow("acct", chance.randint(4, 6)),
                                      Sweep("acct", Span([(7, 9)]), "limit")) if chance.random() < 0.3]
        entries.append((Transaction(ACCT, asks, writes), chance.randint(0, at)))
    return History(ACCT, entries)


def edges_by_words(history):
    """The edges, told straight from point 75."""
    found = []
    for i, j in itertools.product(range(1, history.size + 1), repeat=2):
        meet = history.transactions[i - 1].write_area & history.transactions[j - 1].read_area
        if i == j or not meet:
            continue
        if i <= history.seen[j - 1]:
            found.append((i, j, "heard", meet.one()))
        else:
            found.append((j, i, "missed" if i < j else "ahead", meet.one()))
    return found


class Edges(KeptCase):
    def test_edges(self):
        chance, kinds = random.Random(11), set()
        for _ in range(60):
            history = random_history(chance)
            found = edges(history)
            self.assertEqual(found, edges_by_words(history))
            graph = graph_of(history)
            self.assertEqual((type(graph), graph.size), (Graph, history.size))
            self.assertEqual(graph.arrows, tuple(sorted({(x, y) for x, y, _, _ in found})))
            kinds |= {kind for _, _, kind, _ in found}
        self.assertEqual(kinds, {"heard", "missed", "ahead"})

    def test_worked_example(self):
        schema = Schema([Table("acct", Span([(1, 9)]), [("cents", Span.everything())])])
        put = Transaction(schema, [], [SetCell("acct", 4, "cents")])
        total = Transaction(schema, [Question(schema, "sum", "acct", ["cents"])])
        found = [edges(History(schema, [(put, 0), (total, 0)])), edges(History(schema, [(put, 0), (total, 1)]))]
        self.assertEqual(found, [[(2, 1, "missed", ("acct", 4, "cents"))], [(1, 2, "heard", ("acct", 4, "cents"))]])
        self.assertEqual(edges(History(schema, [(total, 0), (put, 0)])), [(1, 2, "ahead", ("acct", 4, "cents"))])

    def test_no_edges(self):
        self.assertEqual(edges(History(ACCT)), [])
        self.assertEqual((graph_of(History(ACCT)).size, graph_of(History(ACCT)).arrows), (0, ()))


class Graphs(KeptCase):
    def test_attributes(self):
        for arrows in ([(3, 1), (1, 2), (3, 1), (2, 1)], ((2, 1), (1, 2), (3, 1))):
            found = Graph(3, arrows)
            self.assertEqual((found.size, found.arrows), (3, ((1, 2), (2, 1), (3, 1))))
            self.assertIs(type(found.arrows), tuple)
        self.assertEqual([(Graph(size).size, Graph(size).arrows) for size in (0, 1, 5)], [(0, ()), (1, ()), (5, ())])

    def test_invalid_arrows(self):
        wrong = [(1, 1), (0, 1), (1, 0), (4, 1), (1, 4), (-1, 2), (1, 2, 3), (1,), (None, 1), [1, 2], "12",
                 *[(value, 1) for value in NO_CONTENTS], *[(2, value) for value in NO_CONTENTS], *NO_CONTENTS]
        for arrow in wrong:
            self.assert_error(InvalidArrow, {"arrow": arrow}, Graph, 3, [(1, 2), arrow, (9, 9)])
        self.assert_error(InvalidArrow, {"arrow": (1, 2)}, Graph, 0, [(1, 2)])
        self.assert_error(InvalidArrow, {"arrow": (1, 1)}, Graph, 1, ((1, 1),))

    def test_path(self):
        for graph in small_graphs():
            for start, goal in itertools.product(range(1, graph.size + 1), repeat=2):
                expected = None
                for many in range(1, graph.size + 1):
                    ends = [nodes for nodes in walks(graph, start, many) if nodes[-1] == goal]
                    if ends:
                        expected = min(ends)
                        break
                self.assertEqual(graph.path(start, goal), expected)

    def test_ring(self):
        for graph in small_graphs():
            expected = None
            for many in range(1, graph.size + 1):
                rings = [nodes[:-1] for start in range(1, graph.size + 1) for nodes in walks(graph, start, many) if nodes[-1] == start]
                if rings:
                    expected = min(rings)
                    self.assertEqual(len(set(expected)), len(expected))
                    break
            self.assertEqual(graph.ring(), expected)

    def test_lists_are_new(self):
        graph = Graph(2, [(1, 2), (2, 1)])
        graph.ring().append("more")
        graph.path(1, 2).append("more")
        self.assertEqual((graph.ring(), graph.path(1, 2), graph.path(1, 1)), ([1, 2], [1, 2], [1, 2, 1]))
