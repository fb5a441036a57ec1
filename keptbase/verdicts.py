"""Verdicts: whether a layer leads stores that keep a rule to stores that keep it (points 94 to 97)."""

from keptbase.answers import answer
from keptbase.conditions import KeyIn
from keptbase.leanstores import counts_from
from keptbase.reach import reach_keys
from keptbase.rules import Unique, Within, column_contents
from keptbase.sights import Sight
from keptbase.spans import Span


def untouched_keys(layer, table):
    """Return the span of the keys of a table at which a layer has no change."""
    keys = layer.schema.table_of(table).key_span
    told = layer.old.told_keys(table)
    return keys - Span.of(*told)


def verdict(rule, layer):
    """Return "void", "keeps", "breaks" or "asks"."""
    if isinstance(rule, Within):
        return within_verdict(rule, layer)
    if isinstance(rule, Unique):
        return unique_verdict(rule, layer)
    return refers_verdict(rule, layer)


def count_on(rule, part):
    """Return the count of a rule's question on a part."""
    return answer(rule.question, part, Sight())


def untouched_count(rule, layer):
    """Return a rule's question narrowed to the keys at which a layer has no change."""
    return rule.question.narrowed(KeyIn(untouched_keys(layer, rule.question.table)))


def possible_counts(rule, layer):
    """Return the span of the counts on stores that keep a rule and that a layer fits."""
    many = reach_keys(untouched_count(rule, layer), {}).size
    return rule.span & counts_from(count_on(rule, layer.old), many)


def kept_counts(rule, layer):
    """Return the span of the counts from which a layer leads to a count in the span."""
    return rule.span.shifted(count_on(rule, layer.old) - count_on(rule, layer.new))


def within_verdict(rule, layer):
    """Return the verdict on a layer of a rule about a count."""
    possible = possible_counts(rule, layer)
    if not possible:
        return "void"
    kept = kept_counts(rule, layer)
    if possible.within(kept):
        return "keeps"
    return "asks" if possible & kept else "breaks"


def contents_on(rule, part):
    """Return the list of the contents but None in a rule's column on a part."""
    return [content for _, content in column_contents(part, rule.table, rule.column)]


def has_twice(contents):
    """Tell whether a list has a content more than once."""
    return len(set(contents)) < len(contents)


def added_contents(rule, layer):
    """Return the ascending list of the new contents of a layer that are not old ones, each once."""
    old = contents_on(rule, layer.old)
    return [content for content in sorted(set(contents_on(rule, layer.new))) if content not in old]


def unique_verdict(rule, layer):
    """Return the verdict on a layer of a rule about contents that may not occur twice."""
    if has_twice(contents_on(rule, layer.old)):
        return "void"
    if has_twice(contents_on(rule, layer.new)):
        return "breaks"
    return "asks" if added_contents(rule, layer) and untouched_keys(layer, rule.table) else "keeps"


def has_missing(rule, part):
    """Tell whether a part has a content that cannot be the key of a row of the rule's target."""
    keys = rule.schema.table_of(rule.target).key_span
    for content in contents_on(rule, part):
        if content not in keys:
            return True
        if part.tells(rule.target, content) and part.image(rule.target, content) is None:
            return True
    return False


def needed_keys(rule, layer):
    """Return the ascending list of the added contents whose places in the rule's target are untouched."""
    untouched = untouched_keys(layer, rule.target)
    return [content for content in added_contents(rule, layer) if content in untouched]


def lost_keys(rule, layer):
    """Return the ascending list of the keys that the column can name and at which the target loses its row."""
    domain = rule.schema.table_of(rule.table).domain_of(rule.column)
    lost = [key for key, _ in layer.old.listed_rows(rule.target) if layer.new.image(rule.target, key) is None]
    return [key for key in lost if key in domain]


def refers_verdict(rule, layer):
    """Return the verdict on a layer of a rule about contents that have to be keys."""
    if has_missing(rule, layer.old):
        return "void"
    if has_missing(rule, layer.new):
        return "breaks"
    if needed_keys(rule, layer):
        return "asks"
    return "asks" if lost_keys(rule, layer) and untouched_keys(layer, rule.table) else "keeps"
