"""What a layer tells of a question: truths of signs, and the keys that it leaves alone (points 61, 63)."""

from keptbase.cases import tests_of
from keptbase.sights import sign_of
from keptbase.spans import Span


def told_signs(question, layer, sight):
    """Return the dict of the truths under a sight of a question's signs at all rows of a layer."""
    table = question.schema.table_of(question.table)
    rows = [*layer.old.listed_rows(question.table), *layer.new.listed_rows(question.table)]
    found = {}
    for _, row in rows:
        for test in tests_of(question.where):
            sign = sign_of(table, test, row)
            found[sign] = sight.holds(sign)
    return found


def untouched_for(question, layer):
    """Return the span of the keys of a question's table at which a layer has no change."""
    touched = layer.old.told_keys(question.table)
    return question.schema.table_of(question.table).key_span - Span.of(*touched)
