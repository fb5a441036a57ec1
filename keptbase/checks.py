"""Checks: what a layer leaves to ask about untouched rows for a rule to be kept (points 98 and 99)."""

from keptbase.conditions import CellIn, KeyIn
from keptbase.leanstores import counting_entries, entry_with, lean_store, with_rows
from keptbase.questions import Question
from keptbase.rules import Unique, Within
from keptbase.spans import Span
from keptbase.verdicts import (added_contents, count_on, kept_counts, lost_keys, needed_keys, possible_counts,
                               untouched_count, untouched_keys, verdict)


def checks(rule, layer):
    """Return the list of the checks of a layer for a rule; it is empty unless the verdict is "asks"."""
    if verdict(rule, layer) != "asks":
        return []
    if isinstance(rule, Within):
        return [within_check(rule, layer)]
    if isinstance(rule, Unique):
        return [untouched_check(rule, layer, added_contents(rule, layer))]
    return refers_checks(rule, layer)


def within_check(rule, layer):
    """Return the check of a rule about a count."""
    span = rule.span.shifted(-count_on(rule, layer.new)) & Span([(0, None)])
    return Within(untouched_count(rule, layer), span)


def untouched_check(rule, layer, contents):
    """Return the check that no untouched row of a rule's table has one of some contents."""
    where = KeyIn(untouched_keys(layer, rule.table)) & CellIn(rule.column, Span.of(*contents))
    return Within(Question(rule.schema, "count", rule.table, where=where), Span.of(0))


def refers_checks(rule, layer):
    """Return the checks of a rule about contents that have to be keys."""
    found = []
    needed = needed_keys(rule, layer)
    if needed:
        question = Question(rule.schema, "count", rule.target, where=KeyIn(Span.of(*needed)))
        found.append(Within(question, Span.of(len(needed))))
    lost = lost_keys(rule, layer)
    if lost and untouched_keys(layer, rule.table):
        found.append(untouched_check(rule, layer, lost))
    return found


def check_stores(rule, layer):
    """Return stores that keep a rule and that a layer fits, the later ones of which each break one check alone."""
    told = verdict(rule, layer)
    if told == "void":
        return []
    if isinstance(rule, Within):
        return within_stores(rule, layer, told)
    lean = lean_store(rule, [layer])
    if told != "asks":
        return [lean]
    if isinstance(rule, Unique):
        return [lean, with_untouched(rule, layer, lean, added_contents(rule, layer))]
    return [lean, *refers_stores(rule, layer, lean)]


def within_stores(rule, layer, told):
    """Return the stores of check_stores for a rule about a count."""
    possible = possible_counts(rule, layer)
    kept = kept_counts(rule, layer)
    spans = [possible & kept, possible - kept] if told == "asks" else [possible]
    # The old images have the least of the possible counts at least, so the least one needs the fewest rows.
    many = [span.nearest(0) - count_on(rule, layer.old) for span in spans]
    question = untouched_count(rule, layer)
    return [with_rows(layer.old.as_store(), counting_entries(question, number)) for number in many]


def with_untouched(rule, layer, store, contents):
    """Return a store with one row more at an untouched key of a rule's table, which has the first of some contents."""
    key = untouched_keys(layer, rule.table).nearest(0)
    return with_rows(store, [entry_with(rule, key, contents[0])])


def refers_stores(rule, layer, lean):
    """Return for each check of a rule about contents that have to be keys a store that breaks it alone."""
    found = []
    needed = needed_keys(rule, layer)
    if needed:
        found.append(lean.without(rule.target, needed[0]))
    lost = lost_keys(rule, layer)
    if lost and untouched_keys(layer, rule.table):
        found.append(with_untouched(rule, layer, lean, lost))
    return found
