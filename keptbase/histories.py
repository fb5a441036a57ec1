"""Histories: transactions in the order in which they came, and what each of them has seen (points 74, 79)."""

from keptbase.errors import InvalidSeen, NoSuchEntry
from keptbase.spans import is_content


def is_numbered(value, low, high):
    """Tell whether a value of any kind is an integer from low to high."""
    return is_content(value) and value is not None and low <= value <= high


def check_entries(size, numbers):
    """Raise an error for the first of some numbers that is no entry."""
    for number in numbers:
        if not is_numbered(number, 1, size):
            raise NoSuchEntry(number)


def check_seen(seen):
    """Raise an error for the first entry that cannot have seen the number that it has."""
    for at, number in enumerate(seen):
        if not is_numbered(number, 0, at):
            raise InvalidSeen(at + 1)


class History:
    """Transactions, numbered from 1, each with the number of entries that it has seen."""

    def __init__(self, schema, entries=()):
        listed = list(entries)
        self.schema = schema
        self.transactions = tuple([transaction for transaction, _ in listed])
        self.seen = tuple([number for _, number in listed])
        self.size = len(listed)
        check_seen(self.seen)

    def with_entry(self, transaction, seen):
        """Return the history with one entry more at its end."""
        return History(self.schema, [*list(zip(self.transactions, self.seen)), (transaction, seen)])

    def without(self, numbers):
        """Return the history without the listed entries."""
        check_entries(self.size, numbers)
        left = [number for number in range(1, self.size + 1) if number not in numbers]
        entries = []
        for number in left:
            seen = [other for other in left if other <= self.seen[number - 1]]
            entries.append((self.transactions[number - 1], len(seen)))
        return History(self.schema, entries)
