"""Works on a desk: what they ask and write, on the store that they have begun with (point 102)."""

from keptbase.answers import answer
from keptbase.errors import InvalidChoice
from keptbase.layers import between
from keptbase.refusals import Over
from keptbase.transactions import Transaction, check_apart
from keptbase.writes import PutRow, SetCell, Sweep


class Work:
    """Questions and writes, which are open until they are committed, refused or dropped."""

    def __init__(self, desk, name, seen, snapshot):
        self.name = name
        self.seen = seen
        self.over = False
        self._desk = desk
        self._snapshot = snapshot
        self._asks = []
        self._writes = []
        self._choices = []

    def __enter__(self):
        return self

    def __exit__(self, kind, value, trace):
        self.over = True

    def hear(self, question):
        """Ask a question; return its answer on the snapshot."""
        self._check_open()
        found = self._heard(question)
        self._asks.append(question)
        return found

    def set_cell(self, table, key, column, content):
        """Write a content in a cell; return the answer of the hearing ask."""
        self._check_open()
        return self._written(SetCell(table, key, column), content)

    def put_row(self, table, key, row):
        """Write a row, or None, at a place; return the answer of the hearing ask."""
        self._check_open()
        return self._written(PutRow(table, key), row)

    def sweep(self, table, span, column, content):
        """Write one content in a column at the keys of a span; return the answer of the hearing ask."""
        self._check_open()
        return self._written(Sweep(table, span, column), (content, ()))

    def commit(self):
        """Commit the work; return the number of the new version."""
        self._check_open()
        # A work that is refused is over as well.
        self.over = True
        return self._desk.let_in(self)

    def drop(self):
        """End the work without a commit."""
        self.over = True

    def as_transaction(self):
        """Return the transaction of the asks and writes so far."""
        return Transaction(self._desk.schema, self._asks, self._writes)

    def as_layer(self):
        """Return the layer from the snapshot to the effect of the asks and writes so far."""
        effect = self.as_transaction().effect(self._snapshot, self._choices)
        return between(self._snapshot, effect)

    def _check_open(self):
        """Raise an error if the work is over."""
        if self.over:
            raise Over(self.name)

    def _heard(self, question):
        """Return the answer of a question on the snapshot."""
        return answer(question, self._snapshot, self._desk.sight)

    def _written(self, write, choice):
        """Make a write, if nothing speaks against it; return the answer of its hearing ask."""
        schema = self._desk.schema
        area = write.written_area(schema)
        if not write.suits(schema, choice):
            raise InvalidChoice(len(self._writes))
        check_apart([earlier.written_area(schema) for earlier in self._writes], area)
        self._writes.append(write)
        self._choices.append(choice)
        return self._heard(write.hearing_ask(schema))
