"""Sights that show that formal answers, or answers before and after a layer, differ (points 56, 57)."""

from keptbase.formal import formal
from keptbase.sights import Sight


def parting_sight(first, second):
    """Return a mark and a sight under which two formal answers differ there, or None if they are equal."""
    odd = (first - second).entries
    if not odd:
        return None
    mark, form = odd[0]
    return (mark, Sight((), form.terms[0][0]))


def disturbance(question, layer):
    """Return a store and a sight under which a layer changes the answer on it, or None."""
    found = parting_sight(formal(question, layer.old), formal(question, layer.new))
    if found is None:
        return None
    return (layer.old.as_store(), found[1])
