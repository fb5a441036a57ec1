"""Transactions: what they ask and write, hear and do (points 72 and 73)."""

from keptbase.answers import answer
from keptbase.areas import Area
from keptbase.errors import InvalidChoice, SharedCell
from keptbase.footprints import footprint


def check_apart(areas, area):
    """Raise an error if the area of one more write meets one of the areas of earlier writes."""
    for number, earlier in enumerate(areas):
        common = earlier & area
        if common:
            raise SharedCell(number, len(areas), common.one())


def write_areas(schema, writes):
    """Return the list of the areas of writes; raise an error for the first write with one."""
    areas = []
    for write in writes:
        area = write.written_area(schema)
        check_apart(areas, area)
        areas.append(area)
    return areas


def joined_area(schema, areas):
    """Return the union of all listed areas."""
    entries = []
    for area in areas:
        entries.extend(list(area))
    return Area(schema, entries)


def check_choices(transaction, choices):
    """Raise an error unless there is one suitable choice for each write."""
    for number, write in enumerate(transaction.writes):
        if number >= len(choices) or not write.suits(transaction.schema, choices[number]):
            raise InvalidChoice(number)
    if len(choices) > len(transaction.writes):
        raise InvalidChoice(len(transaction.writes))


def heard(question, store, sight):
    """Return the answer of a question with a tuple in the place of a list."""
    found = answer(question, store, sight)
    return tuple(found) if isinstance(found, list) else found


class Transaction:
    """Questions that are asked, and writes of what a chooser makes of their answers."""

    def __init__(self, schema, asks=(), writes=()):
        self.schema = schema
        self.asks = tuple(asks)
        self.writes = tuple(writes)
        self.write_area = joined_area(schema, write_areas(schema, self.writes))
        self.all_asks = (*self.asks, *[write.hearing_ask(schema) for write in self.writes])
        self.read_area = joined_area(schema, [footprint(question) for question in self.all_asks])

    def hearing(self, store, sight):
        """Return the tuple of the answers to all asks."""
        return tuple([heard(question, store, sight) for question in self.all_asks])

    def effect(self, store, choices):
        """Return the store after all writes, with one choice for each of them."""
        check_choices(self, choices)
        found = store
        for write, choice in zip(self.writes, choices):
            found = write.done(found, choice)
        return found


def independent(first, second):
    """Tell whether of two transactions neither writes what the other one reads."""
    return not (first.write_area.meets(second.read_area) or second.write_area.meets(first.read_area))
