"""What the tests share: error checks, values of any kind, and small worlds to try exhaustively."""

import itertools
import unittest

from keptbase.schema import Schema, Table
from keptbase.sights import Sight
from keptbase.spans import Span
from keptbase.stores import Store


class EqualToAll:
    """A value that claims to be equal to whatever it is compared with."""

    def __eq__(self, other):
        return True

    def __ne__(self, other):
        return False

    def __hash__(self):
        return 1


class NoTruth:
    """A value that cannot be compared, hashed or asked for its truth."""

    __hash__ = None

    def __eq__(self, other):
        raise AssertionError("compared")

    def __bool__(self):
        raise AssertionError("asked for its truth")


NO_CONTENTS = [True, False, 1.0, 0.5, float("nan"), "1", "", "None", b"1", (), (1,), [], [1], {}, {1},
               object(), int, EqualToAll(), NoTruth(), 1j, range(3), Ellipsis, NotImplemented]


class KeptCase(unittest.TestCase):
    def assert_error(self, kind, told, call, *args, **named):
        """Check that a call raises exactly this error, with exactly these attributes."""
        with self.assertRaises(kind) as caught:
            call(*args, **named)
        error = caught.exception
        self.assertIs(type(error), kind)
        self.assertEqual(list(vars(error)), list(told))
        for name, value in told.items():
            found = getattr(error, name)
            self.assertIs(type(found), type(value), name)
            self.assertTrue(found is value or found == value, name)

    def assert_is(self, truth, value):
        """Check that a value is True or False itself."""
        self.assertIs(value, truth)


def tiny_schema():
    """Two tables: with two keys and two columns, and with one key and one column."""
    first = Table("a", Span([(-1, 0)]), [("x", Span.of(None, 0)), ("y", Span([(1, 2)]))],
                  [("odd", ["y", "x"]), ("low", ["x"])])
    second = Table("b", Span.of(5), [("x", Span([(0, 1)]))])
    return Schema([first, second])


def shop_schema():
    """Tables without limits: endless keys, a domain of all contents, a view in another order."""
    item = Table("item", Span([(1, None)]), [("price", Span([(0, 99)])), ("left", Span.read("none, 0..9"))],
                 [("fragile", ["left", "price"])])
    note = Table("note", Span.numbers(), [("cents", Span.everything())])
    return Schema([item, note])


def rows_of_table(table):
    """All rows of a table with finite domains."""
    return list(itertools.product(*[table.domain_of(column).listed() for column in table.columns]))


def places_of(schema):
    """All places of a schema with finite key spans."""
    return [(table.name, key) for table in schema for key in table.key_span.listed()]


def all_stores(schema):
    """All stores of a finite schema."""
    places = places_of(schema)
    images = [[None, *rows_of_table(schema.table_of(table))] for table, _ in places]
    found = []
    for chosen in itertools.product(*images):
        told = [(*place, image) for place, image in zip(places, chosen) if image is not None]
        found.append(Store(schema, told))
    return found


def all_cells(schema):
    """All cells of a finite schema, in the order of cells."""
    return [(table.name, key, field) for table in schema for key in table.key_span.listed()
            for field in ("there", *table.columns)]


def all_sights(signs):
    """For each choice of truths of some signs a sight that gives them."""
    return [Sight((), [sign for sign, truth in zip(signs, truths) if truth])
            for truths in itertools.product([False, True], repeat=len(signs))]


def cells_apart(first, second):
    """The cells in which two stores differ, told straight from point 14."""
    found = []
    for table, key, field in all_cells(first.schema):
        old, new = first.row(table, key), second.row(table, key)
        if field == "there":
            differ = (old is None) != (new is None)
        else:
            at = first.schema.table_of(table).columns.index(field)
            differ = old is not None and new is not None and old[at] != new[at]
        if differ:
            found.append((table, key, field))
    return found
