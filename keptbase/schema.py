"""Tables with their columns and unseen tests, and schemas (points 0.3 and 11)."""

from keptbase.errors import (InvalidColumns, InvalidDomain, InvalidKeySpan, InvalidName, InvalidView,
                             NoSuchColumn, NoSuchTable, NoSuchTest)

LONGEST_NAME = 12
LETTERS = "abcdefghijklmnopqrstuvwxyz"
NAME_SIGNS = "abcdefghijklmnopqrstuvwxyz0123456789"
THERE = "there"
NO_COLUMNS = ("key", "there")


def is_name(value):
    """Tell whether a value of any kind is a name."""
    if not isinstance(value, str) or not 1 <= len(value) <= LONGEST_NAME:
        return False
    return value[0] in LETTERS and all([sign in NAME_SIGNS for sign in value])


def is_one_of(value, names):
    """Tell whether a value of any kind is one of some names."""
    # Only strings are compared: other values may be equal to whatever they like.
    return isinstance(value, str) and value in names


def has_choice(domain):
    """Tell whether a domain has at least two contents."""
    if domain.size is None:
        return True
    return domain.size + int(domain.has_none) >= 2


def checked_columns(table, pairs):
    """Return the tuples of the names and of the domains of the columns of a table."""
    if not 1 <= len(pairs) <= Table.MOST_COLUMNS:
        raise InvalidColumns(table)
    columns = []
    domains = []
    for column, domain in pairs:
        if not is_name(column) or column in NO_COLUMNS or column in columns:
            raise InvalidName(column)
        if not has_choice(domain):
            raise InvalidDomain(column)
        columns.append(column)
        domains.append(domain)
    return (tuple(columns), tuple(domains))


def is_view(view, columns):
    """Tell whether a list names one to three different columns of those that there are."""
    if not isinstance(view, (list, tuple)) or not 1 <= len(view) <= Table.MOST_VIEW:
        return False
    if not all([is_one_of(column, columns) for column in view]):
        return False
    return len(set(view)) == len(view)


def checked_tests(columns, pairs):
    """Return the tuples of the names and of the views of the unseen tests of a table."""
    tests = []
    views = []
    for test, view in pairs:
        if not is_name(test) or test in tests:
            raise InvalidName(test)
        if not is_view(view, columns):
            raise InvalidView(test)
        tests.append(test)
        views.append(tuple(view))
    return (tuple(tests), tuple(views))


class Table:
    """A table: its name, its key span, its columns with their domains, its unseen tests."""

    MOST_COLUMNS = 4
    MOST_VIEW = 3

    def __init__(self, name, key_span, columns, tests=()):
        if not is_name(name):
            raise InvalidName(name)
        if key_span.has_none or not key_span.stretches:
            raise InvalidKeySpan(name)
        self.name = name
        self.key_span = key_span
        self.columns, self._domains = checked_columns(name, list(columns))
        self.tests, self._views = checked_tests(self.columns, list(tests))

    def __eq__(self, other):
        return (isinstance(other, Table) and self.name == other.name
                and self.key_span == other.key_span
                and self.columns == other.columns and self._domains == other._domains
                and self.tests == other.tests and self._views == other._views)

    def domain_of(self, column):
        """Return the domain of a column."""
        return self._domains[self.position_of(column)]

    def position_of(self, column):
        """Return the index of a column in a row."""
        if not is_one_of(column, self.columns):
            raise NoSuchColumn(column)
        return self.columns.index(column)

    def view_of(self, test):
        """Return the view of an unseen test, a tuple of columns."""
        if not is_one_of(test, self.tests):
            raise NoSuchTest(test)
        return self._views[self.tests.index(test)]


def fields_of(table):
    """Return the tuple of the fields of a table, in the order of cells."""
    return (THERE, *table.columns)


class Schema:
    """A list of tables with different names."""

    def __init__(self, tables):
        listed = list(tables)
        names = []
        for table in listed:
            if table.name in names:
                raise InvalidName(table.name)
            names.append(table.name)
        self.tables = tuple(names)
        self._listed = tuple(listed)

    def __iter__(self):
        return iter(self._listed)

    def __eq__(self, other):
        return isinstance(other, Schema) and self._listed == other._listed

    def table_of(self, name):
        """Return the table with a name."""
        return self._listed[self.index_of(name)]

    def index_of(self, name):
        """Return the index of the table with a name."""
        if not is_one_of(name, self.tables):
            raise NoSuchTable(name)
        return self.tables.index(name)
