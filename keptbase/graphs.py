"""Graphs of histories: which entry has to stand ahead of which other one (points 75 and 76)."""

from keptbase.errors import InvalidArrow
from keptbase.histories import is_numbered


def edge(history, writer, reader, cell):
    """Return the edge of two entries of which one writes a cell that the other one reads."""
    if writer <= history.seen[reader - 1]:
        return (writer, reader, "heard", cell)
    return (reader, writer, "missed" if writer < reader else "ahead", cell)


def edges(history):
    """Return the list of the edges, by ascending writers and then readers."""
    found = []
    for writer, one in enumerate(history.transactions, start=1):
        for reader, other in enumerate(history.transactions, start=1):
            common = one.write_area & other.read_area
            if writer != reader and common:
                found.append(edge(history, writer, reader, common.one()))
    return found


def graph_of(history):
    """Return the graph of a history, with an arrow for each edge."""
    return Graph(history.size, [(start, goal) for start, goal, _, _ in edges(history)])


def is_arrow(size, value):
    """Tell whether a value of any kind is a pair of different nodes."""
    if not isinstance(value, tuple) or len(value) != 2:
        return False
    return all([is_numbered(node, 1, size) for node in value]) and value[0] != value[1]


class Graph:
    """Nodes from 1 on, and arrows between them."""

    def __init__(self, size, arrows=()):
        listed = list(arrows)
        for arrow in listed:
            if not is_arrow(size, arrow):
                raise InvalidArrow(arrow)
        self.size = size
        self.arrows = tuple(sorted(set(listed)))

    def path(self, start, goal):
        """Return the least of the shortest lists of nodes along arrows from one to another, or None."""
        # Shorter lists come first, and of one length the lesser ones.
        paths = [[start]]
        reached = {}
        while paths:
            longer = []
            for nodes in list(paths):
                for node in self._following(nodes[-1]):
                    if node == goal:
                        return [*nodes, node]
                    if node not in reached:
                        reached[node] = True
                        longer.append([*nodes, node])
            paths = longer
        return None

    def ring(self):
        """Return the least of the rings with the fewest nodes, or None."""
        found = [self.path(node, node) for node in range(1, self.size + 1)]
        rings = sorted([(len(nodes), nodes[:-1]) for nodes in found if nodes is not None])
        return rings[0][1] if rings else None

    def _following(self, node):
        """Return the ascending list of the nodes to which arrows lead from a node."""
        return [goal for start, goal in self.arrows if start == node]
