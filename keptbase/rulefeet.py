"""The footprints of rules: the cells that can decide whether a rule is kept (point 93)."""

from keptbase.areas import Area
from keptbase.conditions import KeyIn
from keptbase.footprints import contributing_keys, footprint
from keptbase.leanstores import counting_entries, counts_from, entry_with, target_entry, with_rows
from keptbase.rules import Unique, Within
from keptbase.schema import THERE
from keptbase.spans import Span
from keptbase.stores import Store
from keptbase.witnesses import witness


def rule_footprint(rule):
    """Return the area of the cells in which a store that keeps a rule and one that breaks it can differ alone."""
    if isinstance(rule, Within):
        return within_footprint(rule)
    if isinstance(rule, Unique):
        return unique_footprint(rule)
    return refers_footprint(rule)


def within_footprint(rule):
    """Return the footprint of a rule about a count."""
    possible = counts_from(0, contributing_keys(rule.question).size)
    kept = possible & rule.span
    if not kept or kept == possible:
        return Area(rule.schema)
    return footprint(rule.question)


def unique_footprint(rule):
    """Return the footprint of a rule about contents that may not occur twice."""
    keys = rule.schema.table_of(rule.table).key_span
    if keys.size == 1:
        return Area(rule.schema)
    return Area(rule.schema, [(rule.table, THERE, keys), (rule.table, rule.column, keys)])


def named_keys(rule):
    """Return the span of the keys of a rule's target that the column can name."""
    domain = rule.schema.table_of(rule.table).domain_of(rule.column)
    return rule.schema.table_of(rule.target).key_span & domain


def refers_footprint(rule):
    """Return the footprint of a rule about contents that have to be keys."""
    table = rule.schema.table_of(rule.table)
    named = named_keys(rule)
    entries = [(rule.table, THERE, table.key_span), (rule.target, THERE, named)]
    if named or table.domain_of(rule.column).has_none:
        entries.append((rule.table, rule.column, table.key_span))
    return Area(rule.schema, entries)


def rule_witness(rule, cell):
    """Return a store that keeps a rule and one that breaks it, which differ in a cell alone, or None."""
    if cell not in rule_footprint(rule):
        return None
    if isinstance(rule, Within):
        return within_witness(rule, cell)
    if isinstance(rule, Unique):
        return unique_witness(rule, cell)
    return refers_witness(rule, cell)


def within_witness(rule, cell):
    """Return a witness for a cell in the footprint of a rule about a count."""
    keys = contributing_keys(rule.question) - Span.of(cell[1])
    # One row more takes a count out of the span or into it.
    above = rule.span.shifted(-1)
    turning = ((rule.span - above) | (above - rule.span)) & counts_from(0, keys.size)
    more = counting_entries(rule.question.narrowed(KeyIn(keys)), turning.nearest(0))
    first, second, _ = witness(rule.question, cell)
    stores = (with_rows(first, more), with_rows(second, more))
    return stores if rule.kept_on(stores[0]) else stores[::-1]


def unique_witness(rule, cell):
    """Return a witness for a cell in the footprint of a rule about contents that may not occur twice."""
    table = rule.schema.table_of(rule.table)
    key = cell[1]
    domain = table.domain_of(rule.column)
    content = domain.nearest(0)
    beside = Store(rule.schema, [entry_with(rule, (table.key_span - Span.of(key)).nearest(0), content)])
    other = (domain - Span.of(content)).nearest(0)
    changed = [] if cell[2] == THERE else [entry_with(rule, key, other)]
    return (with_rows(beside, changed), with_rows(beside, [entry_with(rule, key, content)]))


def refers_witness(rule, cell):
    """Return a witness for a cell in the footprint of a rule about contents that have to be keys."""
    table = rule.schema.table_of(rule.table)
    key = cell[1]
    if cell[0] == rule.target:
        broken = Store(rule.schema, [entry_with(rule, table.key_span.nearest(0), key)])
        return (with_rows(broken, [target_entry(rule, key)]), broken)
    domain = table.domain_of(rule.column)
    if cell[2] == THERE:
        return (Store(rule.schema), Store(rule.schema, [entry_with(rule, key, domain.nearest(0))]))
    kept = None if domain.has_none else named_keys(rule).nearest(0)
    base = Store(rule.schema, [] if kept is None else [target_entry(rule, kept)])
    wrong = (domain - Span.of(kept)).nearest(0)
    return (with_rows(base, [entry_with(rule, key, kept)]), with_rows(base, [entry_with(rule, key, wrong)]))
