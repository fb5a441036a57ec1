"""Partings: a run and fixed choosers that show that an order is not faithful (points 77 and 78)."""

from keptbase.choosers import Fixed
from keptbase.footprints import footprint
from keptbase.orders import check_order
from keptbase.rows import picked
from keptbase.running import run, run_in_order
from keptbase.witnesses import witness
from keptbase.writes import PutRow, Sweep


class Parting:
    """A base, a sight and choosers with which an ask of an entry has different answers in two runs."""

    def __init__(self, base, sight, choosers, entry, asked, heard, other):
        self.base = base
        self.sight = sight
        self.choosers = choosers
        self.entry = entry
        self.asked = asked
        self.heard = heard
        self.other = other


def last_writers(history, entry, ahead):
    """Return the list of tuples of a last writer and the cells of an entry's read area that it wrote last."""
    rest = history.transactions[entry - 1].read_area
    found = []
    for writer in list(ahead)[::-1]:
        area = rest & history.transactions[writer - 1].write_area
        if area:
            found.append((writer, area))
        rest = rest - area
    if rest:
        found.append((0, rest))
    return found


def writers_seen(history, entry):
    """Return the last writers of an entry in the history: those among the entries that it saw."""
    return last_writers(history, entry, list(range(1, history.seen[entry - 1] + 1)))


def changed_writer(first, second):
    """Return a last writer that others have not, with a cell for which this is so, or None."""
    for writer, area in first:
        for other, cells in second:
            if writer != other and area.meets(cells):
                return (other if writer == 0 else writer, (area & cells).one())
    return None


def content_for(schema, write, stores):
    """Return the content in a write's column that the first of some stores with a row has, or any if none has one."""
    table = schema.table_of(write.table)
    rows = []
    for store in stores:
        rows.extend([row for _, row in store.listed_rows(write.table)])
    # Where a store has no row it does not matter what is written, so it may be what its one row has elsewhere.
    return picked(table, rows[0], [write.column])[0] if rows else table.domain_of(write.column).nearest(0)


def choice_for(schema, write, stores):
    """Return the choice by which a write puts what the first of some stores has."""
    if isinstance(write, PutRow):
        return stores[0].row(write.table, write.key)
    content = content_for(schema, write, stores)
    return (content, ()) if isinstance(write, Sweep) else content


def fixed_for(transaction, stores):
    """Return a chooser that puts what the first of two stores has, or the other one where it has no row."""
    return Fixed([choice_for(transaction.schema, write, stores) for write in transaction.writes])


def asked_about(transaction, cell):
    """Return the number of the first of all asks with a cell in its footprint."""
    found = [number for number, question in enumerate(transaction.all_asks) if cell in footprint(question)]
    return found[0]


def staged(history, entry, writer, cell):
    """Return an ask of an entry, with a base, a sight and choosers that show if a writer is last at a cell."""
    reader = history.transactions[entry - 1]
    asked = asked_about(reader, cell)
    base, changed, sight = witness(reader.all_asks[asked], cell)
    choosers = []
    for number, transaction in enumerate(history.transactions, start=1):
        # The stores differ in the cell alone, so of what the writer puts only this cell differs.
        choosers.append(fixed_for(transaction, (changed, base) if number == writer else (base, changed)))
    return (asked, base, sight, tuple(choosers))


def parting(history, order):
    """Return a parting of an order, or None if the order is faithful."""
    check_order(history.size, order)
    for place, entry in enumerate(order):
        found = changed_writer(writers_seen(history, entry), last_writers(history, entry, order[:place]))
        if found is not None:
            asked, base, sight, choosers = staged(history, entry, found[0], found[1])
            came = run(history, base, sight, choosers).hearings[entry - 1]
            turned = run_in_order(history, order, base, sight, choosers).hearings[entry - 1]
            return Parting(base, sight, choosers, entry, asked, came[asked], turned[asked])
    return None
