"""The cells in which two stores differ, and the steps from one to the other (points 14, 15, 18)."""

from keptbase.areas import Area
from keptbase.placing import in_order
from keptbase.rows import changed_columns
from keptbase.schema import THERE


def differing_fields(table, old, new):
    """Return the list of the fields in which two images of a place differ."""
    if old is None or new is None:
        return [] if old == new else [THERE]
    return changed_columns(table, old, new)


def all_places(first, second):
    """Return the list of the places at which one of two stores has a row, in order."""
    more = [(table, key) for table, key in second.places() if first.row(table, key) is None]
    return in_order(first.schema, [*first.places(), *more])


def differing_cells(first, second):
    """Return the list of the cells in which two stores differ, in the order of cells."""
    found = []
    for name, key in all_places(first, second):
        table = first.schema.table_of(name)
        fields = differing_fields(table, first.row(name, key), second.row(name, key))
        found.extend([(name, key, field) for field in fields])
    return found


def difference(first, second):
    """Return the area of the cells in which two stores differ."""
    return Area.of(first.schema, differing_cells(first, second))


def stepped(store, goal, cell):
    """Return a store that has in one cell what the goal has there."""
    name, key, field = cell
    row = goal.row(name, key)
    if row is None:
        return store.without(name, key)
    if field == THERE:
        return store.put(name, key, row)
    at = store.schema.table_of(name).position_of(field)
    return store.written(name, key, field, row[at])


def steps(first, second):
    """Return the list of the stores from one to another, of which each changes one cell."""
    found = [first]
    for cell in differing_cells(first, second):
        found.append(stepped(found[-1], second, cell))
    return found


def agree_on(first, second, area):
    """Tell whether two stores differ in no cell of an area."""
    return not area.meets(difference(first, second))
