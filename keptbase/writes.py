"""Writes: what cells they write, what they hear, and what may be chosen for them (points 71 to 73)."""

from keptbase.areas import Area
from keptbase.conditions import KeyIn
from keptbase.placing import is_image, table_at
from keptbase.questions import KEY_NAME, Question
from keptbase.schema import fields_of
from keptbase.spans import Span


class Write:
    """The base class of all writes."""


class SetCell(Write):
    """A write of one cell."""

    def __init__(self, table, key, column):
        self.table = table
        self.key = key
        self.column = column

    def written_area(self, schema):
        """Return the area of the cell; raise an error if it is none of a column."""
        # The table is asked for its error, too: "there" is a field, but no column.
        table_at(schema, self.table, self.key).position_of(self.column)
        return Area(schema, [(self.table, self.column, Span.of(self.key))])

    def hearing_ask(self, schema):
        """Return the question that is asked for the write."""
        return Question(schema, "rows", self.table, [self.column], where=KeyIn(Span.of(self.key)))

    def suits(self, schema, choice):
        """Tell whether a value of any kind is a choice for the write."""
        return choice in schema.table_of(self.table).domain_of(self.column)

    def done(self, store, choice):
        """Return a store after the write."""
        return store.written(self.table, self.key, self.column, choice)


class PutRow(Write):
    """A write of all cells of a place."""

    def __init__(self, table, key):
        self.table = table
        self.key = key

    def written_area(self, schema):
        """Return the area of the cells; raise an error if there is no such place."""
        fields = fields_of(table_at(schema, self.table, self.key))
        return Area(schema, [(self.table, field, Span.of(self.key)) for field in fields])

    def hearing_ask(self, schema):
        """Return the question that is asked for the write."""
        columns = schema.table_of(self.table).columns
        return Question(schema, "rows", self.table, columns, where=KeyIn(Span.of(self.key)))

    def suits(self, schema, choice):
        """Tell whether a value of any kind is a choice for the write."""
        return is_image(schema.table_of(self.table), choice)

    def done(self, store, choice):
        """Return a store after the write."""
        if choice is None:
            return store.without(self.table, self.key)
        return store.put(self.table, self.key, choice)


class Sweep(Write):
    """A write of one column's cells at the keys of a span."""

    def __init__(self, table, span, column):
        self.table = table
        self.span = span
        self.column = column

    def written_area(self, schema):
        """Return the area of the cells; raise an error if there is no such column."""
        schema.table_of(self.table).position_of(self.column)
        return Area(schema, [(self.table, self.column, self.span)])

    def hearing_ask(self, schema):
        """Return the question that is asked for the write."""
        keys = KeyIn(swept_keys(schema, self))
        return Question(schema, "rows", self.table, [KEY_NAME, self.column], where=keys)

    def suits(self, schema, choice):
        """Tell whether a value of any kind is a choice for the write."""
        if not isinstance(choice, tuple) or len(choice) != 2:
            return False
        content, pairs = choice
        domain = schema.table_of(self.table).domain_of(self.column)
        return content in domain and are_pairs(pairs, swept_keys(schema, self), domain)

    def done(self, store, choice):
        """Return a store after the write."""
        content, pairs = choice
        own = {key: other for key, other in pairs}
        keys = swept_keys(store.schema, self)
        found = store
        for key, _ in store.listed_rows(self.table):
            if key in keys:
                found = found.written(self.table, key, self.column, own.get(key, content))
        return found


def swept_keys(schema, sweep):
    """Return the span of the keys of the cells of a sweep."""
    return sweep.span & schema.table_of(sweep.table).key_span


def are_pairs(value, keys, domain):
    """Tell whether a value of any kind is a list of pairs of different keys and contents of a domain."""
    if not isinstance(value, (list, tuple)):
        return False
    seen = {}
    for pair in value:
        if not isinstance(pair, tuple) or len(pair) != 2:
            return False
        key, content = pair
        if key not in keys or key in seen or content not in domain:
            return False
        seen[key] = True
    return True
