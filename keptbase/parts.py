"""Parts: what is told of finitely many places (points 19 and 20)."""

from keptbase.errors import NotJoined, NotTold
from keptbase.placing import images_by_place, listed_images, rows_of, table_at
from keptbase.stores import Store


class Part:
    """An image, a row or None, of each of finitely many places."""

    def __init__(self, schema, images=()):
        self.schema = schema
        self._images = images_by_place(schema, images, False)
        self._listed = listed_images(self._images)
        self.size = len(self._listed)

    @classmethod
    def of(cls, store, places):
        """Return the part that tells what a store has at the listed places."""
        images = {}
        for table, key in places:
            images[table, key] = store.row(table, key)
        return cls(store.schema, listed_images(images))

    def __iter__(self):
        return iter(self._listed)

    def __eq__(self, other):
        return (isinstance(other, Part) and self.schema == other.schema
                and self._listed == other._listed)

    def places(self):
        """Return the list of the told places, in order."""
        return list(self._images)

    def told_keys(self, table):
        """Return the ascending list of the told keys of a table."""
        name = self.schema.table_of(table).name
        return [place[1] for place in self._images if place[0] == name]

    def listed_rows(self, table):
        """Return the list of the pairs of key and told row of a table, by ascending key."""
        return rows_of(self._images, self.schema.table_of(table).name)

    def as_store(self):
        """Return the store of the told rows."""
        return Store(self.schema, [entry for entry in self._listed if entry[2] is not None])

    def tells(self, table, key):
        """Tell whether the part tells a place."""
        table_at(self.schema, table, key)
        return (table, key) in self._images

    def image(self, table, key):
        """Return the image of a told place."""
        if not self.tells(table, key):
            raise NotTold(table, key)
        return self._images[table, key]

    def agrees(self, store):
        """Tell whether a store has what the part tells."""
        return all([store.row(table, key) == image for table, key, image in self._listed])

    def laid_on(self, store):
        """Return the store with the told images at the told places."""
        kept = [entry for entry in store if (entry[0], entry[1]) not in self._images]
        return Store(self.schema, [*kept, *self.as_store()])

    def joined(self, other):
        """Return the part that tells what either of two parts tells."""
        for table, key, image in self._listed:
            if other.tells(table, key) and other.image(table, key) != image:
                raise NotJoined(table, key)
        more = [entry for entry in other if not self.tells(entry[0], entry[1])]
        return Part(self.schema, [*self._listed, *more])
