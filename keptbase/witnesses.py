"""Stores and sights that show differences between the answers of questions (points 42, 48, 49)."""

from keptbase.answers import combine
from keptbase.cases import cases, signs_in
from keptbase.contributions import contributing, contribution
from keptbase.conditions import Both, Not
from keptbase.errors import DifferentQuestions
from keptbase.footprints import contributing_cases, footprint, mates
from keptbase.rows import replaced
from keptbase.schema import THERE
from keptbase.sights import Sight
from keptbase.spans import Span
from keptbase.stores import Store


def two_contents(first, second):
    """Return a tuple of a content of each of two spans that are not equal, or None."""
    one = first.nearest(0)
    others = second - Span.of(one)
    if others:
        return (one, others.nearest(0))
    more = first - Span.of(one)
    return (more.nearest(0), one) if more else None


def store_of(question, key, row):
    """Return the store with one row in the table of a question."""
    return Store(question.schema, [(question.table, key, row)])


def case_at(found, key):
    """Return the first one of the listed cases that has a key and passes."""
    return [case for case in found if case.passed and key in case.span][0]


def row_witness(question, key):
    """Return a contributing key's witness: a tuple of a row and a sight under which it contributes."""
    table = question.schema.table_of(question.table)
    case = case_at(contributing_cases(question), key)
    row = case.sample_row()
    return (row, Sight().with_told(signs_in(case, table, row)))


def shown_witness(question, key, column):
    """Return a witness for the cell of a shown column at a contributing key."""
    table = question.schema.table_of(question.table)
    row, sight = row_witness(question, key)
    # Whether the other row contributes or not, it does not contribute the same.
    content = row[table.position_of(column)]
    other = (table.domain_of(column) - Span.of(content)).nearest(0)
    changed = replaced(table, row, column, other)
    return (store_of(question, key, row), store_of(question, key, changed), sight)


def mate_rows(first, second, at):
    """Return a tuple of rows of two cases that differ in one column alone, or None."""
    contents = two_contents(first.spans[at], second.spans[at])
    if contents is None:
        return None
    common = [(one & other).nearest(0) for one, other in zip(first.spans, second.spans)]
    return tuple([(*common[:at], content, *common[at + 1:]) for content in contents])


def turning_witness(question, key, column):
    """Return a witness for the cell of a column that is not shown at one of its turning keys."""
    table = question.schema.table_of(question.table)
    at = table.position_of(column)
    for first, second in mates(question, column):
        rows = mate_rows(first, second, at)
        if rows is not None and key in first.span & second.span:
            one, other = rows
            told = {**signs_in(first, table, one), **signs_in(second, table, other)}
            return (store_of(question, key, one), store_of(question, key, other), Sight().with_told(told))
    return None


def witness(question, cell):
    """Return two stores that differ in a cell alone and a sight that parts their answers, or None."""
    if cell not in footprint(question):
        return None
    _, key, field = cell
    if field == THERE:
        row, sight = row_witness(question, key)
        return (Store(question.schema), store_of(question, key, row), sight)
    if field in question.shown:
        return shown_witness(question, key, field)
    return turning_witness(question, key, field)


def parted(first, second):
    """Return a store of one row and a sight under which two questions differ, or None if alike."""
    if (first.kind, first.table, first.shown) != (second.kind, second.table, second.shown):
        raise DifferentQuestions()
    table = first.schema.table_of(first.table)
    one, other = contributing(first), contributing(second)
    for condition in (Both(one, Not(other)), Both(other, Not(one))):
        for case in cases(table, condition):
            if case.passed:
                row = case.sample_row()
                sight = Sight().with_told(signs_in(case, table, row))
                return (store_of(first, case.span.nearest(0), row), sight)
    return None


def alike(first, second):
    """Tell whether two questions have equal answers on every store under every sight."""
    return parted(first, second) is None


def different_rows(first, second):
    """Return a row of each of two cases that differ in as many columns as possible."""
    contents = []
    for one, other in zip(first.spans, second.spans):
        found = two_contents(one, other)
        contents.append((one.nearest(0), other.nearest(0)) if found is None else found)
    return tuple([tuple([pair[number] for pair in contents]) for number in (0, 1)])


def joint_rows(table, first, second):
    """Return a tuple of a key and a row of each of two cases and a sight that lies in both, or None."""
    keys = two_contents(first.span, second.span)
    if keys is None:
        return None
    # Rows with equal signs have equal truths, so the rows differ wherever they can.
    one, other = different_rows(first, second)
    told = signs_in(first, table, one)
    sight = Sight().with_told({**told, **signs_in(second, table, other)})
    return (keys[0], one, keys[1], other, sight) if sight.agrees(told) else None


def joint_contributions(question):
    """Return two keys with rows that contribute under one sight, and this sight, or None."""
    table = question.schema.table_of(question.table)
    passed = [case for case in contributing_cases(question) if case.passed]
    for first in passed:
        for second in passed:
            found = joint_rows(table, first, second)
            if found is not None:
                return found
    return None


def hiding(question):
    """Return three stores and a sight such that the third one hides the others' difference, or None."""
    found = None if question.heaping else joint_contributions(question)
    if found is None:
        return None
    key, row, other_key, other, sight = found
    known = contribution(question, key, row, sight)
    both = combine(question, known, contribution(question, other_key, other, sight))
    stores = [store_of(question, key, row), store_of(question, other_key, other)]
    # The row whose contribution prevails hides whether the other one is there.
    if both == known:
        return (Store(question.schema), stores[1], stores[0], sight)
    return (Store(question.schema), stores[0], stores[1], sight)
