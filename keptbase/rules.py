"""Rules that stores keep or break (points 91 and 92)."""

from keptbase.answers import answer
from keptbase.conditions import Unseen
from keptbase.errors import InvalidBounds, InvalidCount, SameTable
from keptbase.sights import Sight


def column_contents(store, table, column):
    """Return the list of pairs of a key and a content but None in a column of a store or part, by ascending key."""
    at = store.schema.table_of(table).position_of(column)
    return [(key, row[at]) for key, row in store.listed_rows(table) if row[at] is not None]


def check_column(schema, table, column):
    """Raise an error if a schema does not have a table, or this no such column."""
    # The table is asked for its errors alone.
    schema.table_of(table).position_of(column)


class Rule:
    """The base class of the rules; itself it is always kept."""

    def __init__(self, schema):
        self.schema = schema

    def kept_on(self, store):
        """Tell whether a store keeps the rule."""
        return self.failure(store) is None

    def failure(self, store):
        """Return None if a store keeps the rule, otherwise a tuple that tells in what it fails."""
        return None


class Within(Rule):
    """The rule that a count is in a span of integers."""

    def __init__(self, question, span):
        unseen = [leaf for leaf in question.where.leaves() if isinstance(leaf, Unseen)]
        if question.kind != "count" or unseen:
            raise InvalidCount(question)
        if span.has_none:
            raise InvalidBounds(span)
        super().__init__(question.schema)
        self.question = question
        self.span = span

    def failure(self, store):
        """Return None if a store keeps the rule, otherwise a tuple of the count."""
        count = answer(self.question, store, Sight())
        return None if count in self.span else (count,)


class Unique(Rule):
    """The rule that no two rows of a table have the same content in a column, except for None."""

    def __init__(self, schema, table, column):
        check_column(schema, table, column)
        super().__init__(schema)
        self.table = table
        self.column = column

    def failure(self, store):
        """Return None if a store keeps the rule, otherwise a tuple of a content and the two least keys that have it."""
        keys = {}
        for key, content in column_contents(store, self.table, self.column):
            keys[content] = [*keys.get(content, []), key]
        twice = [content for content, found in keys.items() if len(found) > 1]
        if not twice:
            return None
        content = min(twice)
        return (content, keys[content][0], keys[content][1])


class Refers(Rule):
    """The rule that each content of a column, except for None, is the key of a row of another table."""

    def __init__(self, schema, table, column, target):
        check_column(schema, table, column)
        schema.index_of(target)
        if target == table:
            raise SameTable(table)
        super().__init__(schema)
        self.table = table
        self.column = column
        self.target = target

    def failure(self, store):
        """Return None if a store keeps the rule, otherwise a tuple of the least key that fails and its content."""
        keys = {key: True for key, _ in store.listed_rows(self.target)}
        for key, content in column_contents(store, self.table, self.column):
            if content not in keys:
                return (key, content)
        return None
