"""Logs: layers in the order in which they came, and what was asked with each of them (points 81 and 88)."""

from keptbase.carrying import carried_run
from keptbase.errors import NotLinked
from keptbase.histories import check_seen, entries_but, seen_among
from keptbase.layers import between
from keptbase.parts import Part


def check_linked(entry, left, layer):
    """Raise an error if a layer has another old image than the one that earlier layers have left at a place."""
    for table, key, before, _ in layer:
        if (table, key) in left and left[table, key] != before:
            raise NotLinked(entry, table, key)


def checked_layers(entries):
    """Return the tuple of the layers of entries; raise an error for the first entry with one."""
    left = {}
    layers = []
    for at, (_, number, layer) in enumerate(entries):
        check_seen(at + 1, number)
        check_linked(at + 1, left, layer)
        for table, key, _, after in layer:
            left[table, key] = after
        layers.append(layer)
    return tuple(layers)


def told_base(schema, layers):
    """Return the part that tells at each place of some layers the old image of the first one that has it."""
    images = {}
    for layer in layers:
        for table, key, before, _ in layer:
            images.setdefault((table, key), before)
    return Part(schema, [(table, key, image) for (table, key), image in images.items()])


class Log:
    """Layers, numbered from 1, each with its asks and the number of entries that it has seen."""

    def __init__(self, schema, entries=()):
        listed = list(entries)
        self.schema = schema
        self.layers = checked_layers(listed)
        self.asks = tuple([tuple(asks) for asks, _, _ in listed])
        self.seen = tuple([number for _, number, _ in listed])
        self.size = len(listed)
        self.base = told_base(schema, self.layers)

    def bears(self, store):
        """Tell whether the layers can lead a store one after another."""
        return self.base.agrees(store)

    def with_entry(self, asks, seen, layer):
        """Return the log with one entry more at its end."""
        return Log(self.schema, [*list(zip(self.asks, self.seen, self.layers)), (asks, seen, layer)])

    def without(self, number):
        """Return the log without an entry."""
        left = entries_but(self.size, [number])
        stores = carried_run([self.layers[entry - 1] for entry in left], self.base.as_store())
        layers = [between(stores[at], stores[at + 1]) for at in range(len(left))]
        asks = [self.asks[entry - 1] for entry in left]
        return Log(self.schema, list(zip(asks, seen_among(self.seen, left), layers)))
