"""Layers that are carried onto stores other than their own (points 28 to 30)."""

from keptbase.errors import DoesNotSit
from keptbase.grips import layer_area, layer_grip, unseated
from keptbase.parts import Part
from keptbase.rows import changed_columns, picked, replaced


def carried_image(table, before, after, row):
    """Return the image that a change makes of the row, or None, that a store has at its place."""
    if before is None or after is None:
        return after
    for column in changed_columns(table, before, after):
        row = replaced(table, row, column, picked(table, after, [column])[0])
    return row


def carried(layer, store):
    """Return the store that results when a layer is carried onto a store."""
    cell = unseated(layer, store)
    if cell is not None:
        raise DoesNotSit(cell)
    images = []
    for name, key, before, after in layer:
        table = layer.schema.table_of(name)
        images.append((name, key, carried_image(table, before, after, store.row(name, key))))
    return Part(layer.schema, images).laid_on(store)


def carried_run(layers, store):
    """Return the list of a store and the stores that result as layers are carried in turn."""
    found = [store]
    for layer in layers:
        found.append(carried(layer, found[-1]))
    return found


def exchangeable(first, second):
    """Tell whether the area of the first layer does not meet the grip of the second one."""
    return not layer_area(first).meets(layer_grip(second))
