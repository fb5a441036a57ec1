"""The area and the grip of a layer, and the stores on which it sits (points 26 and 27)."""

from keptbase.areas import Area
from keptbase.differ import difference
from keptbase.rows import changed_columns
from keptbase.schema import THERE, fields_of


def layer_area(layer):
    """Return the area of the cells in which the old and the new images differ."""
    return difference(layer.old.as_store(), layer.new.as_store())


def held_fields(table, before, after):
    """Return the fields of a place that a change needs to find as in its old image."""
    if before is None:
        return [THERE]
    if after is None:
        return list(fields_of(table))
    return [THERE, *changed_columns(table, before, after)]


def layer_grip(layer):
    """Return the area of the cells on which it depends whether the layer sits."""
    cells = []
    for name, key, before, after in layer:
        fields = held_fields(layer.schema.table_of(name), before, after)
        cells.extend([(name, key, field) for field in fields])
    return Area.of(layer.schema, cells)


def unseated(layer, store):
    """Return the first cell of the grip in which a store differs from the old images, or None."""
    odd = layer_grip(layer) & difference(layer.old.as_store(), store)
    return odd.cells()[0] if odd else None


def sits(layer, store):
    """Tell whether a layer sits on a store."""
    return unseated(layer, store) is None
