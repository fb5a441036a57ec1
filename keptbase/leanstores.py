"""Rows and stores that are made up to show how rules are kept and broken."""

from keptbase.reach import counting_cases
from keptbase.rows import replaced
from keptbase.rules import Refers, column_contents
from keptbase.spans import Span
from keptbase.stores import Store


def any_row(table):
    """Return a row of a table: in each column the integer nearest to 0."""
    return tuple([table.domain_of(column).nearest(0) for column in table.columns])


def entry_with(rule, key, content):
    """Return the entry of a store for a row of a rule's table with a content in the rule's column."""
    table = rule.schema.table_of(rule.table)
    return (rule.table, key, replaced(table, any_row(table), rule.column, content))


def target_entry(rule, key):
    """Return the entry of a store for a row of a rule's target."""
    return (rule.target, key, any_row(rule.schema.table_of(rule.target)))


def with_rows(store, entries):
    """Return a store with some rows more."""
    return Store(store.schema, [*store, *entries])


def counts_from(low, many):
    """Return the span of the counts of some rows and any of many others, or of endlessly many if None."""
    return Span([(low, None if many is None else low + many)])


def counting_entries(question, many):
    """Return the entries of a store for so many rows that count, or for fewer if there are not so many keys."""
    entries = []
    left = question.schema.table_of(question.table).key_span
    for case in counting_cases(question, {}):
        span = case.span & left
        while span and len(entries) < many:
            key = span.nearest(0)
            entries.append((question.table, key, case.sample_row()))
            span = span - Span.of(key)
            left = left - Span.of(key)
    return entries


def named_contents(rule, layer):
    """Return the ascending list of the old and new contents of a layer in a rule's column, each once."""
    pairs = [*column_contents(layer.old, rule.table, rule.column), *column_contents(layer.new, rule.table, rule.column)]
    return sorted(set([content for _, content in pairs]))


def lean_store(rule, layers):
    """Return the store of the old images of layers and, if a rule refers to them, of untouched rows of the target."""
    entries = []
    for layer in layers:
        entries.extend(list(layer.old.as_store()))
    if isinstance(rule, Refers):
        entries.extend([target_entry(rule, key) for key in untouched_targets(rule, layers)])
    return Store(rule.schema, entries)


def untouched_targets(rule, layers):
    """Return the ascending list of the keys of a rule's target that layers name and none of them touches."""
    keys = rule.schema.table_of(rule.target).key_span
    touched = []
    named = []
    for layer in layers:
        touched.extend(layer.old.told_keys(rule.target))
        named.extend(named_contents(rule, layer))
    return [key for key in sorted(set(named)) if key in keys and key not in touched]
