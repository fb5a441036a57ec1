"""Areas: sets of cells in which the keys of each field form a span (points 14, 16 and 17)."""

from keptbase.errors import Endless, InvalidField
from keptbase.placing import table_at
from keptbase.schema import fields_of, is_one_of
from keptbase.spans import Span


def check_field(table, field):
    """Raise an error if a value of any kind is no field of a table."""
    if not is_one_of(field, fields_of(table)):
        raise InvalidField(table.name, field)


def spans_by_field(schema, entries):
    """Return the dict of the spans of the listed entries by table and field."""
    found = {}
    for name, field, span in entries:
        table = schema.table_of(name)
        check_field(table, field)
        inside = span & table.key_span
        found[name, field] = found.get((name, field), Span()) | inside
    return found


def normal_entries(schema, spans):
    """Return the entries of the normal form for a dict of spans by table and field."""
    entries = []
    for table in schema:
        for field in fields_of(table):
            span = spans.get((table.name, field), Span())
            if span:
                entries.append((table.name, field, span))
    return entries


def total_size(spans):
    """Return the number of contents in all listed spans without None, None if one is endless."""
    sizes = [span.size for span in spans]
    return None if None in sizes else sum(sizes)


class Area:
    """A set of cells such that the keys of its cells in each field form a span."""

    def __init__(self, schema, entries=()):
        listed = normal_entries(schema, spans_by_field(schema, entries))
        self.schema = schema
        self._listed = tuple(listed)
        self._spans = {(table, field): span for table, field, span in listed}
        self.size = total_size([entry[2] for entry in listed])

    @classmethod
    def of(cls, schema, cells):
        """Return the area of the listed cells."""
        keys = {}
        for table, key, field in cells:
            check_field(table_at(schema, table, key), field)
            keys[table, field] = [*keys.get((table, field), []), key]
        return cls(schema, [(table, field, Span.of(*found)) for (table, field), found in keys.items()])

    @classmethod
    def whole(cls, schema):
        """Return the area of all cells."""
        entries = []
        for table in schema:
            entries.extend([(table.name, field, table.key_span) for field in fields_of(table)])
        return cls(schema, entries)

    def __iter__(self):
        return iter(self._listed)

    def __eq__(self, other):
        return (isinstance(other, Area) and self.schema == other.schema
                and self._listed == other._listed)

    def __bool__(self):
        return bool(self._listed)

    def __contains__(self, cell):
        if not isinstance(cell, tuple) or len(cell) != 3:
            return False
        table, key, field = cell
        if not isinstance(table, str) or not isinstance(field, str):
            return False
        return key in self._spans.get((table, field), Span())

    def __and__(self, other):
        return Area(self.schema, [(table, field, span & other.span_of(table, field))
                                  for table, field, span in self._listed])

    def __or__(self, other):
        return Area(self.schema, [*self, *other])

    def __sub__(self, other):
        return Area(self.schema, [(table, field, span - other.span_of(table, field))
                                  for table, field, span in self._listed])

    def meets(self, other):
        """Tell whether the two areas have a common cell."""
        return bool(self & other)

    def within(self, other):
        """Tell whether each cell of the area is in the other one."""
        return not self - other

    def span_of(self, table, field):
        """Return the span of the keys of the cells with a field."""
        check_field(self.schema.table_of(table), field)
        return self._spans.get((table, field), Span())

    def touched(self, table):
        """Return the span of the keys of all cells of a table."""
        keys = Span()
        for field in fields_of(self.schema.table_of(table)):
            keys = keys | self.span_of(table, field)
        return keys

    def one(self):
        """Return the chosen cell, or None if there is no cell."""
        if not self._listed:
            return None
        table, field, span = self._listed[0]
        return (table, span.nearest(0), field)

    def cells(self):
        """Return the list of the cells in the order of cells."""
        if self.size is None:
            raise Endless()
        found = []
        for table in self.schema:
            for key in self.touched(table.name).listed():
                for field in fields_of(table):
                    if key in self.span_of(table.name, field):
                        found.append((table.name, key, field))
        return found
