"""Layers that each keep a rule and break it together (point 100)."""

from keptbase.conditions import KeyIn
from keptbase.errors import CommonPlace
from keptbase.leanstores import counting_entries, counts_from, lean_store, with_rows
from keptbase.reach import reach_keys
from keptbase.rules import Within
from keptbase.verdicts import count_on, untouched_keys


def check_no_common(first, second):
    """Raise an error for the first place of one layer that another one has, too."""
    for table, key in first.places():
        if second.images(table, key) is not None:
            raise CommonPlace(table, key)


def break_together(rule, first, second):
    """Return a store on which two layers break a rule together, or None if they do not."""
    check_no_common(first, second)
    if isinstance(rule, Within):
        return crowded_store(rule, first, second)
    store = lean_store(rule, [first, second])
    kept = [store, first.lead(store), second.lead(store)]
    if not all([rule.kept_on(one) for one in kept]) or rule.kept_on(second.lead(first.lead(store))):
        return None
    return store


def growth(rule, layer):
    """Return by how much a layer changes the count of a rule's question."""
    return count_on(rule, layer.new) - count_on(rule, layer.old)


def crowded_store(rule, first, second):
    """Return a store on which two layers break a rule about a count together, or None if they do not."""
    table = rule.question.table
    question = rule.question.narrowed(KeyIn(untouched_keys(first, table) & untouched_keys(second, table)))
    low = count_on(rule, first.old) + count_on(rule, second.old)
    one, other = growth(rule, first), growth(rule, second)
    kept = rule.span & rule.span.shifted(-one) & rule.span.shifted(-other)
    odd = (kept - rule.span.shifted(-one - other)) & counts_from(low, reach_keys(question, {}).size)
    if not odd:
        return None
    return with_rows(lean_store(rule, [first, second]), counting_entries(question, odd.nearest(0) - low))
