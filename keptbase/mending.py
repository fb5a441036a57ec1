"""Kept answers that are brought on over layers (points 63 to 66 and 70)."""

from keptbase.answers import answer, combine
from keptbase.looks import changed_by, look
from keptbase.resting import finished, rest_question


def mended(question, layer, sight, kept):
    """Return the list of the new answer if it is determined, otherwise the empty list."""
    if question.heaping:
        return [changed_by(question, kept, look(question, layer), sight)]
    if rest_question(question, layer, sight, kept) is not None:
        return []
    new = answer(question, layer.new, sight)
    if answer(question, layer.old, sight) == kept:
        return [new]
    return [combine(question, kept, new)]


def brought_on(question, layer, sight, kept, store):
    """Return the new answer, for which the rest question is asked on a store if need be."""
    known = mended(question, layer, sight, kept)
    if known:
        return known[0]
    rest = rest_question(question, layer, sight, kept)
    return finished(question, layer, sight, answer(rest, store, sight))
