"""Choosers, which tell from a hearing what a transaction writes (point 73)."""

from keptbase.writes import PutRow, Sweep


def kept_choice(choice):
    """Return a choice, of any kind, with a tuple in the place of the list of a sweep's pairs."""
    if isinstance(choice, tuple) and len(choice) == 2 and isinstance(choice[1], list):
        return (choice[0], tuple(choice[1]))
    return choice


class Fixed:
    """A chooser that always makes the same choices."""

    def __init__(self, choices):
        self.choices = tuple([kept_choice(choice) for choice in choices])

    def __call__(self, transaction, hearing):
        return list(self.choices)


def weight(heard):
    """Return the weight of a hearing, or of a part of it."""
    if isinstance(heard, tuple):
        return len(heard) + sum([weight(member) for member in heard])
    if heard is None:
        return 1
    if heard is True:
        return 2
    return 3 if heard is False else heard


def mixed_content(table, column, number):
    """Return the content of a column that a number leads to."""
    return table.domain_of(column).nearest(number % 97 - 48)


def mixed_choice(schema, write, at, number):
    """Return the choice of a mixed chooser for the write with an index and the number of the hearing."""
    table = schema.table_of(write.table)
    mixed = number + 5 * at
    if isinstance(write, PutRow):
        if (number + at) % 3 == 0:
            return None
        return tuple([mixed_content(table, column, mixed + 3 * i) for i, column in enumerate(table.columns)])
    content = mixed_content(table, write.column, mixed)
    return (content, ()) if isinstance(write, Sweep) else content


class Mixed:
    """A chooser whose choices depend on the whole hearing."""

    def __init__(self, seed, factor):
        self.seed = seed
        self.factor = factor

    def __call__(self, transaction, hearing):
        number = self.seed + self.factor * weight(hearing)
        return [mixed_choice(transaction.schema, write, at, number)
                for at, write in enumerate(transaction.writes)]
