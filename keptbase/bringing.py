"""How kept answers are brought on over a layer that has led to a store (point 106)."""

from keptbase.answers import answer
from keptbase.footprints import footprint
from keptbase.grips import layer_area
from keptbase.looks import look
from keptbase.mending import mended
from keptbase.resting import finished, rest_question


def copied(known):
    """Return an answer, a list as a new one."""
    return list(known) if isinstance(known, list) else known


def brought(question, layer, store, sight, known):
    """Return the tuple of the way in which a known answer is brought on over a layer, and the new answer."""
    if not layer_area(layer).meets(footprint(question)):
        return ("missed", copied(known))
    if not look(question, layer):
        return ("blank", copied(known))
    found = mended(question, layer, sight, known)
    if found:
        return ("mended", found[0])
    rest = rest_question(question, layer, sight, known)
    return ("read", finished(question, layer, sight, answer(rest, store, sight)))
