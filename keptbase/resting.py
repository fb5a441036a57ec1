"""The question that is left where a layer does not determine the new answer (points 64 to 67)."""

from keptbase.answers import answer, combine
from keptbase.conditions import Both, CellIn, KeyIn
from keptbase.reach import reach_keys
from keptbase.spans import Span
from keptbase.told import told_signs, untouched_for


def up_from(low):
    """Return the span of the integers from a number on; it is empty if there is no number."""
    return Span() if low is None else Span([(low, None)])


def down_from(high):
    """Return the span of the integers up to a number; it is empty if there is no number."""
    return Span() if high is None else Span([(None, high)])


def deciding(question, kept, new):
    """Return the condition for the rows that agree with a kept answer and would replace the new one."""
    if question.kind == "least":
        return CellIn(question.shown[0], up_from(kept) - up_from(new))
    if question.kind == "greatest":
        return CellIn(question.shown[0], down_from(kept) - down_from(new))
    if question.kind == "first":
        # A row at the very key of the kept answer would be one that the layer touches.
        return KeyIn(up_from(kept[0] + 1) - up_from(None if new is None else new[0]))
    return KeyIn(Span() if new else Span.numbers())


def rest_question(question, layer, sight, kept):
    """Return the question about untouched rows that is left, or None if the new answer is determined."""
    if question.heaping or kept is None or kept is False:
        return None
    if answer(question, layer.old, sight) != kept:
        return None
    new = answer(question, layer.new, sight)
    untouched = KeyIn(untouched_for(question, layer))
    rest = question.narrowed(Both(untouched, deciding(question, kept, new)))
    return rest if reach_keys(rest, told_signs(question, layer, sight)) else None


def finished(question, layer, sight, heard):
    """Return the new answer from the answer of the rest question."""
    return combine(question, answer(question, layer.new, sight), heard)
