"""What stores, parts, areas and layers have in common: places, and images at places."""

from keptbase.errors import InvalidKey, InvalidRow, RepeatedPlace
from keptbase.rows import is_row


def table_at(schema, name, key):
    """Return the table of a place; raise an error if there is no such place."""
    table = schema.table_of(name)
    if key not in table.key_span:
        raise InvalidKey(name, key)
    return table


def in_order(schema, places):
    """Return the list of different places in the order of places."""
    ranked = sorted([(schema.index_of(name), key) for name, key in places])
    return [(schema.tables[at], key) for at, key in ranked]


def is_image(table, value):
    """Tell whether a value of any kind is a row of a table, or None for no row."""
    return value is None or is_row(table, value)


def images_by_place(schema, entries, rows_only):
    """Return the dict of the images in the order of places from a list in any order."""
    found = {}
    for name, key, image in entries:
        table = table_at(schema, name, key)
        if not is_image(table, image) or (rows_only and image is None):
            raise InvalidRow(name, image)
        if (name, key) in found:
            raise RepeatedPlace(name, key)
        found[name, key] = image
    return {place: found[place] for place in in_order(schema, list(found))}


def listed_images(images):
    """Return the tuple of the tuples of table, key and image of a dict of images."""
    return tuple([(name, key, image) for (name, key), image in images.items()])


def rows_of(images, table):
    """Return the list of the pairs of key and row of one table of a dict of images."""
    return [(key, row) for (name, key), row in images.items() if name == table and row is not None]
