"""Footprints: the cells on which the answers of a question depend (points 42 and 43)."""

from keptbase.areas import Area
from keptbase.cases import cases
from keptbase.contributions import contributing
from keptbase.reach import keys_of
from keptbase.schema import THERE
from keptbase.spans import Span


def contributing_cases(question):
    """Return the list of the cases of the condition that a row contributes to a question."""
    return cases(question.schema.table_of(question.table), contributing(question))


def contributing_keys(question):
    """Return the span of the keys at which some row contributes under some sight."""
    return keys_of([case for case in contributing_cases(question) if case.passed])


def are_mates(first, second, at, shared_tests):
    """Tell whether rows that differ in one column alone can lie in one case and in the other."""
    if any([first.truths[test] != second.truths[test] for test in shared_tests]):
        return False
    if not first.span & second.span:
        return False
    pairs = list(zip(first.spans, second.spans))
    return all([number == at or bool(one & other) for number, (one, other) in enumerate(pairs)])


def mates(question, column):
    """Return the list of pairs of cases, of which one contributes, that a column can tell apart."""
    table = question.schema.table_of(question.table)
    at = table.position_of(column)
    found = contributing_cases(question)
    failed = [case for case in found if not case.passed]
    # Under one sight a test that does not see the column has one truth at both rows.
    shared_tests = [test for test in found[0].truths if column not in table.view_of(test)]
    pairs = []
    for case in found:
        if case.passed:
            pairs.extend([(case, other) for other in failed if are_mates(case, other, at, shared_tests)])
    return pairs


def turning_keys(question, column):
    """Return the span of the keys at which a column alone can decide whether a row contributes."""
    # Among two contents of the column there are always two different ones that do it: each
    # content of its domain, and there are two, contributes in some case or fails in some case.
    keys = Span()
    for first, second in mates(question, column):
        keys = keys | (first.span & second.span)
    return keys


def footprint(question):
    """Return the area of the cells on which the answers of a question depend."""
    keys = contributing_keys(question)
    entries = [(question.table, THERE, keys)]
    for column in question.schema.table_of(question.table).columns:
        own = keys if column in question.shown else turning_keys(question, column)
        entries.append((question.table, column, own))
    return Area(question.schema, entries)
