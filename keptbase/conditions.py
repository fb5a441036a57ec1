"""Conditions about the keys and the rows of a table (point 32)."""

from keptbase.errors import InvalidKeyTest
from keptbase.schema import is_one_of
from keptbase.sights import sign_of


def check_leaves(condition, table):
    """Raise an error for the first leaf whose column or test a table does not have."""
    # The table is asked for its errors alone.
    for leaf in condition.leaves():
        if isinstance(leaf, CellIn):
            table.position_of(leaf.column)
        elif isinstance(leaf, Unseen):
            table.view_of(leaf.test)


class Condition:
    """The base class of all conditions; itself it is always true."""

    def counts(self, table, key, row, sight):
        """Tell whether the condition is true for a key, a row and a sight."""
        check_leaves(self, table)
        truths = {}
        for leaf in self.leaves():
            if isinstance(leaf, Unseen):
                truths[leaf.test] = sight.holds(sign_of(table, leaf.test, row))
        return self.judge(table, key, row, truths)

    def judge(self, table, key, row, truths):
        """Tell whether the condition is true if the unseen tests have the truths of a dict."""
        return True

    def leaves(self):
        """Return the list of the leaves, from left to right."""
        return []

    def __and__(self, other):
        return Both(self, other)

    def __or__(self, other):
        return Either(self, other)

    def __invert__(self):
        return Not(self)


class Always(Condition):
    """The condition that is always true."""


class KeyIn(Condition):
    """Whether the key is in a span."""

    def __init__(self, span):
        if span.has_none:
            raise InvalidKeyTest(span)
        self.span = span

    def judge(self, table, key, row, truths):
        return key in self.span

    def leaves(self):
        return [self]


class CellIn(Condition):
    """Whether the content of the row in a column is in a span."""

    def __init__(self, column, span):
        self.column = column
        self.span = span

    def judge(self, table, key, row, truths):
        # No error may come from here, so a column that is missing has no content.
        if not is_one_of(self.column, table.columns):
            return False
        return row[table.position_of(self.column)] in self.span

    def leaves(self):
        return [self]


class Unseen(Condition):
    """Whether an unseen test of the table holds for the row."""

    def __init__(self, test):
        self.test = test

    def judge(self, table, key, row, truths):
        # As under a sight, a test of which nothing is told does not hold.
        return truths.get(self.test, False)

    def leaves(self):
        return [self]


def joined_leaves(parts):
    """Return the list of the leaves of all parts, from left to right."""
    found = []
    for part in parts:
        found.extend(part.leaves())
    return found


class Both(Condition):
    """Whether each part is true."""

    def __init__(self, *parts):
        self.parts = parts

    def judge(self, table, key, row, truths):
        for part in self.parts:
            if not part.judge(table, key, row, truths):
                return False
        return True

    def leaves(self):
        return joined_leaves(self.parts)


class Either(Condition):
    """Whether at least one part is true."""

    def __init__(self, *parts):
        self.parts = parts

    def judge(self, table, key, row, truths):
        for part in self.parts:
            if part.judge(table, key, row, truths):
                return True
        return False

    def leaves(self):
        return joined_leaves(self.parts)


class Not(Condition):
    """Whether the part is false."""

    def __init__(self, part):
        self.part = part

    def judge(self, table, key, row, truths):
        return not self.part.judge(table, key, row, truths)

    def leaves(self):
        return self.part.leaves()
