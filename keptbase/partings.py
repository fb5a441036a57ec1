"""Partings: a run and fixed choosers that show that an order is not faithful (points 77 and 78)."""

from keptbase.choosers import Fixed
from keptbase.footprints import footprint
from keptbase.orders import check_order
from keptbase.rows import picked
from keptbase.running import run, run_in_order
from keptbase.witnesses import witness
from keptbase.writes import PutRow, Sweep


class Parting:
    """A base, a sight and choosers with which an ask of an entry has different answers in two runs."""

    def __init__(self, base, sight, choosers, entry, asked, heard, other):
        self.base = base
        self.sight = sight
        self.choosers = choosers
        self.entry = entry
        self.asked = asked
        self.heard = heard
        self.other = other


def last_writers(history, entry, ahead):
    """Return the list of tuples of a last writer and the cells of an entry's read area that it wrote last."""
    rest = history.transactions[entry - 1].read_area
    found = []
    for writer in list(ahead)[::-1]:
        area = rest & history.transactions[writer - 1].write_area
        if area:
            found.append((writer, area))
        rest = rest - area
    if rest:
        found.append((0, rest))
    return found


def writers_seen(history, entry):
    """Return the last writers of an entry in the history: those among the entries that it saw."""
    return last_writers(history, entry, list(range(1, history.seen[entry - 1] + 1)))


def changed_writer(first, second):
    """Return a last writer that others have not, with a cell for which this is so, or None."""
    for writer, area in first:
        for other, cells in second:
            if writer != other and area.meets(cells):
                return (other if writer == 0 else writer, (area & cells).one())
    return None


def content_for(schema, write, stores):
    """Return the content that the first of some stores has in a cell of a write, or any if none has one."""
    table = schema.table_of(write.table)
    area = write.written_area(schema)
    for store in stores:
        for key, row in store.listed_rows(write.table):
            if (write.table, key, write.column) in area:
                return picked(table, row, [write.column])[0]
    return table.domain_of(write.column).nearest(0)


def choice_for(schema, write, stores):
    """Return the choice by which a write puts what the first of some stores has."""
    if isinstance(write, PutRow):
        return stores[0].row(write.table, write.key)
    content = content_for(schema, write, stores)
    # The stores have at most one row, so one content serves at all keys of a sweep.
    return (content, ()) if isinstance(write, Sweep) else content


def fixed_for(transaction, cell, stores):
    """Return a chooser that puts what the first of some stores has, but the last of them by the write of a cell."""
    choices = []
    for write in transaction.writes:
        has_cell = cell is not None and cell in write.written_area(transaction.schema)
        choices.append(choice_for(transaction.schema, write, stores[::-1] if has_cell else stores))
    return Fixed(choices)


def asked_about(transaction, cell):
    """Return the number of the first of all asks with a cell in its footprint."""
    found = [number for number, question in enumerate(transaction.all_asks) if cell in footprint(question)]
    return found[0]


def staged(history, entry, writer, cell):
    """Return an ask of an entry, with a base, a sight and choosers that show if a writer is last at a cell."""
    reader = history.transactions[entry - 1]
    asked = asked_about(reader, cell)
    base, changed, sight = witness(reader.all_asks[asked], cell)
    choosers = []
    for number, transaction in enumerate(history.transactions, start=1):
        own = cell if number == writer else None
        choosers.append(fixed_for(transaction, own, (base, changed)))
    return (asked, base, sight, tuple(choosers))


def parting(history, order):
    """Return a parting of an order, or None if the order is faithful."""
    check_order(history.size, order)
    for place, entry in enumerate(order):
        found = changed_writer(writers_seen(history, entry), last_writers(history, entry, order[:place]))
        if found is not None:
            asked, base, sight, choosers = staged(history, entry, found[0], found[1])
            came = run(history, base, sight, choosers).hearings[entry - 1]
            turned = run_in_order(history, order, base, sight, choosers).hearings[entry - 1]
            return Parting(base, sight, choosers, entry, asked, came[asked], turned[asked])
    return None
