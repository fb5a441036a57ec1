"""Orders of the nodes of a graph that keep all its arrows (point 76)."""

from keptbase.errors import InvalidOrder
from keptbase.histories import is_numbered


def check_order(size, order):
    """Raise an error unless a list has each number from 1 to a size once."""
    listed = tuple(order)
    numbered = all([is_numbered(number, 1, size) for number in listed])
    if not numbered or sorted(listed) != list(range(1, size + 1)):
        raise InvalidOrder(listed)


def keeps(graph, order):
    """Tell whether an order keeps all arrows of a graph."""
    check_order(graph.size, order)
    places = {node: place for place, node in enumerate(order)}
    return all([places[start] < places[goal] for start, goal in graph.arrows])


def next_nodes(graph, placed):
    """Return the ascending list of the nodes that can stand behind those that are placed."""
    waiting = [goal for start, goal in graph.arrows if start not in placed]
    return [node for node in range(1, graph.size + 1) if node not in placed and node not in waiting]


def first_order(graph):
    """Return the least order that keeps all arrows, or None if there is none."""
    found = []
    for _ in range(graph.size):
        nodes = next_nodes(graph, found)
        if not nodes:
            return None
        found.append(nodes[0])
    return found


def orders_from(graph, placed):
    """Give the orders that keep all arrows and begin with the nodes that are placed."""
    if len(placed) == graph.size:
        yield placed
    else:
        for node in next_nodes(graph, placed):
            longer = [*placed, node]
            yield from orders_from(graph, longer)


def orders(graph):
    """Give all orders that keep all arrows, in the order of lists."""
    yield from orders_from(graph, [])


def order_count(graph):
    """Return the number of the orders that keep all arrows."""
    # What can follow depends on which nodes are placed alone, not on their order.
    ways = {(): 1}
    for _ in range(graph.size):
        longer = {}
        for placed, many in list(ways.items()):
            for node in next_nodes(graph, placed):
                wider = tuple(sorted([*placed, node]))
                longer[wider] = longer.get(wider, 0) + many
        ways = longer
    return sum(list(ways.values()))
