"""Rows: tuples with one content for each column of a table (point 12)."""

from keptbase.errors import InvalidContent
from keptbase.spantext import content_text


def is_row(table, value):
    """Tell whether a value of any kind is a row of a table."""
    if not isinstance(value, tuple) or len(value) != len(table.columns):
        return False
    return all([content in table.domain_of(column) for content, column in zip(value, table.columns)])


def picked(table, row, columns):
    """Return the tuple of the contents of a row in the listed columns."""
    return tuple([row[table.position_of(column)] for column in columns])


def replaced(table, row, column, content):
    """Return a row with another content in one column."""
    at = table.position_of(column)
    if content not in table.domain_of(column):
        raise InvalidContent(content)
    return (*row[:at], content, *row[at + 1:])


def changed_columns(table, old, new):
    """Return the list of the columns in which two rows have different contents."""
    return [column for at, column in enumerate(table.columns) if old[at] != new[at]]


def row_text(row):
    """Return the written forms of the contents of a row with one space between them."""
    return " ".join([content_text(content) for content in row])
