import inspect
import itertools

from helpers import NO_CONTENTS, KeptCase
from keptbase.errors import InvalidOrder
from keptbase.graphs import Graph
from keptbase.orders import first_order, keeps, order_count, orders
from test_graphs import small_graphs


def kept_by_words(graph, order):
    return all(order.index(x) < order.index(y) for x, y in graph.arrows)


class Orders(KeptCase):
    def test_small_graphs(self):
        for graph in small_graphs():
            every = [list(order) for order in itertools.permutations(range(1, graph.size + 1))]
            for order in every[::7]:
                self.assert_is(kept_by_words(graph, order), keeps(graph, order))
                self.assert_is(kept_by_words(graph, order), keeps(graph, tuple(order)))
            keeping = [order for order in every if kept_by_words(graph, order)]
            self.assertEqual(list(orders(graph)), keeping)
            self.assertEqual(first_order(graph), keeping[0] if keeping else None)
            self.assertEqual(order_count(graph), len(keeping))
            self.assertEqual(keeping == [], graph.ring() is not None)

    def test_paths_and_orders(self):
        for graph in small_graphs()[::3]:
            keeping = list(orders(graph))
            for x, y in itertools.permutations(range(1, graph.size + 1), 2):
                if keeping:
                    ahead = all(order.index(x) < order.index(y) for order in keeping)
                    self.assertEqual(ahead, graph.path(x, y) is not None)

    def test_no_arrows_one_node_and_rings(self):
        self.assertEqual((list(orders(Graph(0))), first_order(Graph(0)), order_count(Graph(0))), ([[]], [], 1))
        self.assertEqual((list(orders(Graph(1))), first_order(Graph(1)), order_count(Graph(1))), ([[1]], [1], 1))
        self.assertEqual((first_order(Graph(4)), order_count(Graph(4))), ([1, 2, 3, 4], 24))
        ring = Graph(3, [(1, 2), (2, 1)])
        self.assertEqual((list(orders(ring)), first_order(ring), order_count(ring)), ([], None, 0))
        self.assert_is(False, keeps(ring, [3, 2, 1]))
        self.assert_is(True, keeps(Graph(0), []))
        self.assertEqual(order_count(Graph(8)), 40320)
        self.assertEqual(order_count(Graph(8, [(8, 1)])), 20160)

    def test_a_generator_of_new_lists(self):
        found = orders(Graph(3, [(3, 2)]))
        self.assertTrue(inspect.isgenerator(found))
        first = next(found)
        first.append("more")
        self.assertEqual(list(found), [[3, 1, 2], [3, 2, 1]])
        for change in (lambda order: order.pop(), lambda order: order.clear(), lambda order: order.reverse()):
            told = []
            for order in orders(Graph(3, [(3, 2)])):
                told.append(tuple(order))
                change(order)
            self.assertEqual(told, [(1, 3, 2), (3, 1, 2), (3, 2, 1)])
        everything = list(orders(Graph(4)))
        self.assertEqual(len({id(order) for order in everything}), 24)
        first_order(Graph(2)).append("more")
        self.assertEqual(first_order(Graph(2)), [1, 2])

    def test_invalid_orders(self):
        graph = Graph(3, [(1, 2)])
        wrong = [[], [1, 2], [1, 2, 3, 3], [1, 2, 2], [0, 1, 2], [1, 2, 4], [3, 2, 1, 0], [-1, 1, 2], (1, 2), [1, 2, None],
                 *[[1, value, 3] for value in NO_CONTENTS], *[[value, 2, 3] for value in NO_CONTENTS]]
        for order in wrong:
            self.assert_error(InvalidOrder, {"listing": tuple(order)}, keeps, graph, order)
        self.assert_error(InvalidOrder, {"listing": (1,)}, keeps, Graph(0), [1])
        self.assert_error(InvalidOrder, {"listing": ()}, keeps, Graph(1), ())
