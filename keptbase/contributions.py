"""What one row contributes to the answer of a question (points 33 and 36)."""

from keptbase.conditions import Both, CellIn
from keptbase.questions import KEY_NAME
from keptbase.spans import Span


def nothing(question):
    """Return the answer of a question on a store without rows."""
    if question.kind in ("count", "sum"):
        return 0
    if question.kind == "rows":
        return []
    return False if question.kind == "some" else None


def shown_contents(question, key, row):
    """Return the tuple of the shown contents of a row at a key."""
    table = question.schema.table_of(question.table)
    shown = [key if name == KEY_NAME else row[table.position_of(name)] for name in question.shown]
    return tuple(shown)


def counted_answer(question, key, row):
    """Return the answer of a question on a store of one row that counts."""
    shown = shown_contents(question, key, row)
    if question.kind == "count":
        return 1
    if question.kind == "some":
        return True
    if question.kind == "rows":
        return [shown]
    if question.kind == "first":
        return (key, shown)
    if question.kind == "sum" and shown[0] is None:
        return 0
    return shown[0]


def contribution(question, key, row, sight):
    """Return the answer of a question on a store of one row."""
    table = question.schema.table_of(question.table)
    if not question.where.counts(table, key, row, sight):
        return nothing(question)
    return counted_answer(question, key, row)


def contributing(question):
    """Return the condition that is true exactly if a row contributes to a question."""
    if question.kind == "sum":
        contents = ~Span.of(None, 0)
    elif question.kind in ("least", "greatest"):
        contents = Span.numbers()
    else:
        return question.where
    return Both(question.where, CellIn(question.shown[0], contents))
