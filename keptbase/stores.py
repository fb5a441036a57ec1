"""Stores: rows at finitely many places (point 13)."""

from keptbase.errors import InvalidContent
from keptbase.placing import images_by_place, listed_images, rows_of, table_at
from keptbase.rows import replaced


class Store:
    """A row at each of finitely many places."""

    def __init__(self, schema, rows=()):
        self.schema = schema
        self._rows = images_by_place(schema, rows, True)
        self._listed = listed_images(self._rows)
        self.size = len(self._listed)

    def __iter__(self):
        return iter(self._listed)

    def __eq__(self, other):
        return (isinstance(other, Store) and self.schema == other.schema
                and self._listed == other._listed)

    def places(self):
        """Return the list of the places that have a row, in order."""
        return list(self._rows)

    def listed_rows(self, table):
        """Return the list of the pairs of key and row of a table, by ascending key."""
        return rows_of(self._rows, self.schema.table_of(table).name)

    def row(self, table, key):
        """Return the row at a place, or None if there is none."""
        table_at(self.schema, table, key)
        return self._rows.get((table, key))

    def put(self, table, key, row):
        """Return the store with a row put at a place."""
        return Store(self.schema, [*self._elsewhere(table, key), (table, key, row)])

    def without(self, table, key):
        """Return the store with no row at a place."""
        return Store(self.schema, self._elsewhere(table, key))

    def written(self, table, key, column, content):
        """Return the store with a content written in a column of the row at a place, if any."""
        found = table_at(self.schema, table, key)
        if content not in found.domain_of(column):
            raise InvalidContent(content)
        row = self.row(table, key)
        if row is None:
            return self
        return self.put(table, key, replaced(found, row, column, content))

    def _elsewhere(self, table, key):
        """Return the list of the tuples of all rows but the one at a place, if any."""
        table_at(self.schema, table, key)
        return [entry for entry in self._listed if (entry[0], entry[1]) != (table, key)]
