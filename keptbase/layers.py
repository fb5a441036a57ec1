"""Layers: old and new images at finitely many places (points 21 to 25)."""

from keptbase.composing import broken_place
from keptbase.differ import all_places
from keptbase.errors import DoesNotFit, DoesNotFollow, IdleChange, InvalidRow, RepeatedPlace
from keptbase.parts import Part
from keptbase.placing import in_order, is_image, table_at


def checked_change(schema, change):
    """Return the place and the pair of images of a change; raise an error if it is none."""
    name, key, before, after = change
    table = table_at(schema, name, key)
    for image in (before, after):
        if not is_image(table, image):
            raise InvalidRow(name, image)
    if before == after:
        raise IdleChange(name, key)
    return ((name, key), (before, after))


def pairs_by_place(schema, changes):
    """Return the dict of the pairs of images in the order of places from a list in any order."""
    found = {}
    for change in changes:
        place, pair = checked_change(schema, change)
        if place in found:
            raise RepeatedPlace(place[0], place[1])
        found[place] = pair
    return {place: found[place] for place in in_order(schema, list(found))}


def listed_changes(first, second):
    """Return the list of the changes of the sum of a layer and one that follows it."""
    found = []
    for table, key, before, after in first:
        images = second.images(table, key)
        last = after if images is None else images[1]
        if before != last:
            found.append((table, key, before, last))
    for table, key, before, after in second:
        if first.images(table, key) is None:
            found.append((table, key, before, after))
    return found


class Layer:
    """A change of the rows at finitely many places, with the images before and after it."""

    def __init__(self, schema, changes=()):
        pairs = pairs_by_place(schema, changes)
        listed = [(table, key, pair[0], pair[1]) for (table, key), pair in pairs.items()]
        self.schema = schema
        self._pairs = pairs
        self._listed = tuple(listed)
        self.size = len(listed)
        self._before = Part(schema, [(table, key, pair[0]) for (table, key), pair in pairs.items()])
        self._after = Part(schema, [(table, key, pair[1]) for (table, key), pair in pairs.items()])

    @property
    def old(self):
        """The part that tells the old images."""
        return self._before

    @property
    def new(self):
        """The part that tells the new images."""
        return self._after

    def __iter__(self):
        return iter(self._listed)

    def __eq__(self, other):
        return (isinstance(other, Layer) and self.schema == other.schema
                and self._listed == other._listed)

    def __bool__(self):
        return bool(self._listed)

    def __neg__(self):
        return Layer(self.schema, [(table, key, after, before)
                                   for table, key, before, after in self._listed])

    def __add__(self, other):
        place = broken_place(self, other)
        if place is not None:
            raise DoesNotFollow(place[0], place[1])
        return Layer(self.schema, listed_changes(self, other))

    def places(self):
        """Return the list of the places that the layer changes, in order."""
        return list(self._pairs)

    def images(self, table, key):
        """Return the pair of the old and the new image of a place, or None without a change."""
        table_at(self.schema, table, key)
        return self._pairs.get((table, key))

    def fits(self, store):
        """Tell whether a store has the old image at each place of the layer."""
        return self._before.agrees(store)

    def lead(self, store):
        """Return the store to which the layer leads a store that it fits."""
        for table, key, before, _ in self._listed:
            if store.row(table, key) != before:
                raise DoesNotFit(table, key)
        return self._after.laid_on(store)

    def inner(self, span, *tables):
        """Return the layer of the changes at keys of a span in some tables, or in all if none is named."""
        named = named_tables(self.schema, tables)
        return Layer(self.schema, [change for change in self._listed if is_inner(change, span, named)])

    def outer(self, span, *tables):
        """Return the layer of the changes that the inner layer does not have."""
        named = named_tables(self.schema, tables)
        return Layer(self.schema, [change for change in self._listed if not is_inner(change, span, named)])


def named_tables(schema, tables):
    """Return the names of the tables that are meant by a tuple of names: all, if there are none."""
    for name in tables:
        # Asked for its error alone.
        schema.index_of(name)
    return tables if tables else schema.tables


def is_inner(change, span, tables):
    """Tell whether a change is at a key of a span in one of some tables."""
    return change[0] in tables and change[1] in span


def between(first, second):
    """Return the layer that leads from one store to another."""
    changes = []
    for table, key in all_places(first, second):
        before, after = first.row(table, key), second.row(table, key)
        if before != after:
            changes.append((table, key, before, after))
    return Layer(first.schema, changes)
