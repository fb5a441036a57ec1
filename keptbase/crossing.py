"""Logs of runs, and layers that transactions do not hear (points 89 and 90)."""

from keptbase.answers import answer
from keptbase.layers import between
from keptbase.logs import Log
from keptbase.lookparting import disturbance


def log_of(history, run):
    """Return the log of a run of a history."""
    entries = []
    for at, transaction in enumerate(history.transactions):
        layer = between(run.stores[at], run.stores[at + 1])
        entries.append((transaction.all_asks, history.seen[at], layer))
    return Log(history.schema, entries)


def crossing(layer, transaction):
    """Return an ask that hears a layer, with a store and a sight that show it, or None if the two cross."""
    for asked, question in enumerate(transaction.all_asks):
        found = disturbance(question, layer)
        if found is not None:
            store, sight = found
            answers = [answer(question, one, sight) for one in (store, layer.lead(store))]
            return (asked, store, sight, answers[0], answers[1])
    return None
