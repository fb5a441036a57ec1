"""The keys at which some row can count under told signs (point 47)."""

from keptbase.cases import Case, cases, sides, signs_in, told_contents
from keptbase.sights import Sight
from keptbase.spans import Span


def unbarred(table, barred, box):
    """Return a box in a box at whose rows none of the listed conditions is true, or None."""
    if not barred:
        return box
    for found in sides(barred[0], table, box)[1]:
        rest = unbarred(table, barred[1:], found)
        if rest is not None:
            return rest
    return None


def allowed_case(table, case, told):
    """Return a part of a case, with all its keys, whose truths told signs allow, or None."""
    barred = [told_contents(table, test, told, not truth) for test, truth in case.truths.items()]
    box = unbarred(table, barred, (case.span, case.spans, case.truths))
    return None if box is None else Case(box[0], box[1], box[2], case.passed)


def counting_cases(question, told):
    """Return a list of cases in which rows count under told signs, with all keys at which some row can."""
    table = question.schema.table_of(question.table)
    # Signs do not depend on keys. So of each case one row is enough, and far fewer
    # cases are looked at than told signs would make of them.
    found = [allowed_case(table, case, told) for case in cases(table, question.where) if case.passed]
    return [case for case in found if case is not None]


def keys_of(listed):
    """Return the span of the keys of all listed cases."""
    keys = Span()
    for case in listed:
        keys = keys | case.span
    return keys


def reach_keys(question, told):
    """Return the span of the keys at which some row can count under told signs."""
    return keys_of(counting_cases(question, told))


def reaching(question, told):
    """Return a tuple of a key, a row and a sight with told signs that lets it count, or None."""
    table = question.schema.table_of(question.table)
    found = counting_cases(question, told)
    key = keys_of(found).nearest(0)
    for case in found:
        if key in case.span:
            row = case.sample_row()
            return (key, row, Sight().with_told({**told, **signs_in(case, table, row)}))
    return None
