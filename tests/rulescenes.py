"""What tests of rules share: small schemas with all their stores, and rules about them."""

import itertools

from helpers import all_stores, tiny_schema
from keptbase.conditions import Always, Both, CellIn, KeyIn
from keptbase.layers import between
from keptbase.questions import Question
from keptbase.rules import Refers, Unique, Within
from keptbase.schema import Schema, Table
from keptbase.spans import Span


def refer_schema(keys, contents, targets):
    """A table whose column refers to another table, which has some keys."""
    return Schema([Table("t", Span.of(*keys), [("c", Span.of(*contents))]), Table("u", Span.of(*targets), [("x", Span.of(0, 1))])])


TINY = tiny_schema()
# A content that is no key of the target, a key that is no content; no None; contents that are no keys; one key each.
REFER = refer_schema([1, 2], [None, 1, 2], [1, 3])
FULL = refer_schema([1, 2], [1, 2], [1, 2])
APART = refer_schema([1, 2], [5, 6], [1])
NARROW = refer_schema([4], [None, 4], [4, 5])
# Three keys, so that some are untouched beside a layer.
WIDE = Schema([Table("a", Span.of(-1, 0, 2), [("x", Span.of(None, 0, 1)), ("y", Span.of(1, 2))])])

STORES = {id(schema): all_stores(schema) for schema in (TINY, REFER, FULL, APART, NARROW, WIDE)}


def within_rules(schema, table, spans):
    """Rules about counts of one table with columns x and y."""
    here, zero, one = KeyIn(Span.of(0)), CellIn("x", Span.of(0)), CellIn("y", Span.of(1))
    where = [Always(), here, zero, (here & zero) | one, Both(here, ~here), ~zero & one]
    return [Within(Question(schema, "count", table, where=condition), Span.read(text))
            for condition, text in itertools.product(where, spans)]


SPANS = ["0", "1..", "0..1", "nothing", "..-1", "0, 2", "2", "-3..7"]


def all_rules():
    """Rules of all kinds."""
    found = within_rules(TINY, "a", SPANS) + within_rules(WIDE, "a", ["0..1", "1..2", "0, 2..", "1, 3", "-2..0"])
    found += [Within(Question(TINY, "count", "b", where=CellIn("x", Span.of(1))), Span.read(text)) for text in SPANS[:4]]
    found += [Unique(TINY, "a", "x"), Unique(TINY, "a", "y"), Unique(TINY, "b", "x"), Unique(WIDE, "a", "x"), Unique(WIDE, "a", "y")]
    found += [Refers(schema, "t", "c", "u") for schema in (REFER, FULL, APART, NARROW)]
    return found + [Refers(REFER, "u", "x", "t"), Refers(TINY, "a", "x", "b"), Refers(TINY, "b", "x", "a")]


RULES = all_rules()


def stores_of(rule):
    """All stores of a rule's schema."""
    return STORES[id(rule.schema)]


def kept_by_words(rule, store):
    """Whether a store keeps a rule, told straight from point 91."""
    if isinstance(rule, Within):
        where, columns = rule.question.where, rule.schema.table_of(rule.question.table)
        return sum(where.counts(columns, key, row, None) for table, key, row in store if table == rule.question.table) in rule.span
    at = rule.schema.table_of(rule.table).columns.index(rule.column)
    contents = [row[at] for table, _, row in store if table == rule.table and row[at] is not None]
    if isinstance(rule, Unique):
        return len(contents) == len(set(contents))
    return all(store_has(store, rule.target, content) for content in contents)


def store_has(store, table, key):
    return any((name, other) == (table, key) for name, other, _ in store)


def random_layers(chance, rule, many):
    """Random layers, most of them with few places."""
    found = []
    for _ in range(many):
        layer = between(*chance.sample(stores_of(rule), 2))
        if chance.random() < 0.8:
            layer = layer.inner(Span.of(*chance.sample([-1, 0, 1, 2, 3, 4, 5], chance.choice([1, 3, 4]))))
        if chance.random() < 0.3:
            layer = layer.inner(Span.numbers(), chance.choice(rule.schema.tables))
        found.append(layer)
    return found


def layer_parts(layer):
    """The layer's pieces of one place each, and without one of its places."""
    return [layer.inner(Span.of(key), table) for table, key in layer.places()] + [layer.outer(Span.of(key), table) for table, key in layer.places()]
