"""The states of a log: what the touched places have after some of its layers (point 82)."""

from keptbase.carrying import carried_run
from keptbase.histories import check_entries
from keptbase.parts import Part


def stores_in_turn(log, numbers):
    """Return the list of the store of the told base and the stores after the layers of the listed entries."""
    return carried_run([log.layers[entry - 1] for entry in numbers], log.base.as_store())


def state_of(log, numbers):
    """Return the state of the listed entries, whose layers are carried in this order."""
    check_entries(log.size, numbers)
    return Part.of(stores_in_turn(log, numbers)[-1], log.base.places())


def led_stores(log, store):
    """Return the list of a store that bears the log and the stores to which the layers lead."""
    found = [store]
    for layer in log.layers:
        found.append(layer.lead(found[-1]))
    return found
