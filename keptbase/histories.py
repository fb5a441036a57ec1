"""Histories: transactions in the order in which they came, and what each of them has seen (points 74, 79)."""

from keptbase.errors import InvalidSeen, NoSuchEntry
from keptbase.spans import is_content


def is_numbered(value, low, high):
    """Tell whether a value of any kind is an integer from low to high."""
    return is_content(value) and value is not None and low <= value <= high


def check_entries(size, numbers):
    """Raise an error for the first of some numbers that is no entry."""
    for number in numbers:
        if not is_numbered(number, 1, size):
            raise NoSuchEntry(number)


def check_seen(entry, number):
    """Raise an error if an entry cannot have seen this number of entries."""
    if not is_numbered(number, 0, entry - 1):
        raise InvalidSeen(entry)


def entries_but(size, numbers):
    """Return the ascending list of the entries but the listed ones; raise an error for what is no entry."""
    check_entries(size, numbers)
    return [entry for entry in range(1, size + 1) if entry not in numbers]


def seen_among(seen, left):
    """Return for each of the entries that are left how many of these it has seen."""
    return [len([other for other in left if other <= seen[entry - 1]]) for entry in left]


class History:
    """Transactions, numbered from 1, each with the number of entries that it has seen."""

    def __init__(self, schema, entries=()):
        listed = list(entries)
        self.schema = schema
        self.transactions = tuple([transaction for transaction, _ in listed])
        self.seen = tuple([number for _, number in listed])
        self.size = len(listed)
        for at, number in enumerate(self.seen):
            check_seen(at + 1, number)

    def with_entry(self, transaction, seen):
        """Return the history with one entry more at its end."""
        return History(self.schema, [*list(zip(self.transactions, self.seen)), (transaction, seen)])

    def without(self, numbers):
        """Return the history without the listed entries."""
        left = entries_but(self.size, numbers)
        kept = [self.transactions[entry - 1] for entry in left]
        return History(self.schema, list(zip(kept, seen_among(self.seen, left))))
