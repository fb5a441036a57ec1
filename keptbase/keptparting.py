"""Settings that show that a kept answer and a layer do not determine the new answer (point 68)."""

from keptbase.reach import reaching
from keptbase.resting import rest_question
from keptbase.told import told_signs


def kept_parting(question, layer, sight, kept):
    """Return two settings with different new answers, or None if the new answer is determined."""
    rest = rest_question(question, layer, sight, kept)
    if rest is None:
        return None
    key, row, other = reaching(rest, told_signs(question, layer, sight))
    store = layer.old.as_store()
    return ((store, sight), (store.put(question.table, key, row), other))
