"""Entries that can be taken out of a log without the others hearing it (point 88)."""

from keptbase.carrying import carried
from keptbase.histories import entries_but, seen_among
from keptbase.matching import turn_misfit
from keptbase.versions import stores_in_turn


def taking_misfit(log, number):
    """Return the misfit of the first other entry that an entry cannot be taken from, or None if it can be."""
    left = entries_but(log.size, [number])
    known = stores_in_turn(log, list(range(1, log.size + 1)))
    stores = [known[0]]
    for entry, many in zip(left, seen_among(log.seen, left)):
        found = turn_misfit(log, entry, known[log.seen[entry - 1]], stores[-1], stores[many])
        if found is not None:
            return found
        stores.append(carried(log.layers[entry - 1], stores[-1]))
    return None


def can_take_out(log, number):
    """Tell whether an entry can be taken out."""
    return taking_misfit(log, number) is None
