"""What tests of histories, logs, rules and desks share: random transactions and logs, and runs told by words."""

import itertools

from helpers import all_cells, tiny_schema
from keptbase.conditions import Both, CellIn, KeyIn, Unseen
from keptbase.histories import History
from keptbase.layers import between
from keptbase.questions import Question
from keptbase.spans import Span
from keptbase.transactions import Transaction
from keptbase.writes import PutRow, SetCell, Sweep

TINY = tiny_schema()
CELLS = all_cells(TINY)


def tiny_questions():
    """Questions of many kinds about the tables of the tiny schema."""
    zero, low, odd = CellIn("x", Span.of(0)), Unseen("low"), Unseen("odd")
    here = KeyIn(Span.of(0))
    return [Question(TINY, "count", "a", where=zero), Question(TINY, "some", "a", where=low),
            Question(TINY, "rows", "b", ["x"]), Question(TINY, "first", "a", ["y"], where=here),
            Question(TINY, "least", "a", ["y"], where=zero | low), Question(TINY, "greatest", "a", ["y"]),
            Question(TINY, "sum", "a", ["y"], where=odd & here), Question(TINY, "some", "b", where=CellIn("x", Span.of(1))),
            Question(TINY, "rows", "a", ["key", "x"], where=~zero), Question(TINY, "sum", "b", ["x"]),
            Question(TINY, "count", "a", where=Both(here, ~here))]


QUESTIONS = tiny_questions()
WRITES = [SetCell("a", -1, "x"), SetCell("a", -1, "y"), SetCell("a", 0, "x"), SetCell("a", 0, "y"), PutRow("a", -1),
          PutRow("a", 0), PutRow("b", 5), SetCell("b", 5, "x"), Sweep("a", Span.everything(), "y"),
          Sweep("a", Span.of(0), "x"), Sweep("a", Span(), "y")]


def random_writes(chance, many):
    """At most so many random writes without a common cell."""
    found = []
    for write in chance.sample(WRITES, many):
        area = write.written_area(TINY)
        if not any(area.meets(other.written_area(TINY)) for other in found):
            found.append(write)
    return found


def random_transaction(chance):
    """A transaction of up to two asks and three writes, often of none."""
    asks = chance.sample(QUESTIONS, chance.choice([0, 0, 1, 1, 2]))
    return Transaction(TINY, asks, random_writes(chance, chance.choice([0, 1, 1, 2, 3])))


def random_history(chance, size):
    """A history of random transactions, of which most have seen what was there."""
    seen = [chance.choice([at, at, chance.randint(0, at)]) for at in range(size)]
    return History(TINY, [(random_transaction(chance), number) for number in seen])


def writers_by_words(history, entry, ahead):
    """The last writers, a dict by the cells of the read area, told straight from point 77."""
    found = {}
    for cell in CELLS:
        if cell in history.transactions[entry - 1].read_area:
            writers = [number for number in ahead if cell in history.transactions[number - 1].write_area]
            found[cell] = writers[-1] if writers else 0
    return found


def all_choices(transaction):
    """All tuples of choices for the writes of a transaction over the tiny schema."""
    listed = []
    for write in transaction.writes:
        table = TINY.table_of(write.table)
        if isinstance(write, PutRow):
            rows = itertools.product(*[table.domain_of(column).listed() for column in table.columns])
            listed.append([None, *rows])
        elif isinstance(write, SetCell):
            listed.append(table.domain_of(write.column).listed())
        else:
            contents, keys = table.domain_of(write.column).listed(), (write.span & table.key_span).listed()
            pairs = itertools.product(contents, repeat=len(keys))
            listed.append([(contents[0], tuple(zip(keys, own))) for own in pairs])
    return list(itertools.product(*listed))


def carried_by_words(world, change, images):
    """The images after a change, a pair of tuples of images, is carried onto images; None if it does not sit."""
    found = []
    for old, new, image in zip(*change, images):
        if old == new:
            found.append(image)
        elif old is None or new is None:
            if image != old:
                return None
            found.append(new)
        else:
            if image is None or any(one != have for one, other, have in zip(old, new, image) if one != other):
                return None
            found.append(tuple(have if one == other else other for one, other, have in zip(old, new, image)))
    return tuple(found)


def random_images(chance, world, images, rare):
    """Images of a world, changed at some keys at random, often in one column alone."""
    found = list(images)
    for at in range(len(found)):
        if chance.random() < rare:
            row = chance.choice([None, *world.rows])
            if row is not None and found[at] is not None and chance.random() < 0.7:
                number = chance.randrange(len(row))
                row = (*found[at][:number], row[number], *found[at][number + 1:])
            found[at] = row
    return tuple(found)


class PlainLog:
    """A log over a small world, told by images: for each entry its asks, what it has seen, its images before and after."""

    def __init__(self, world, chance, size, questions, rare=0.5):
        self.world = world
        self.asks = [chance.sample(questions, chance.choice([0, 1, 1, 2])) for _ in range(size)]
        self.seen = [chance.choice([at, chance.randint(0, at)]) for at in range(size)]
        self.versions = [random_images(chance, world, [None] * len(world.keys), 0.8)]
        for _ in range(size):
            self.versions.append(random_images(chance, world, self.versions[-1], rare))
        # An untouched key has the same image in all versions, but another one in other stores that bear the log.
        self.changes = [self.change(at) for at in range(size)]
        self.touched = [any(before[at] != after[at] for before, after in self.changes) for at in range(len(world.keys))]

    def change(self, at):
        """The images before and after an entry, with None twice where nothing changes."""
        pairs = [(one, other) if one != other else (None, None)
                 for one, other in zip(self.versions[at], self.versions[at + 1])]
        return ([one for one, _ in pairs], [other for _, other in pairs])

    def entries(self):
        """What Log takes."""
        stores = [self.world.store(images) for images in self.versions]
        return [(asks, seen, between(stores[at], stores[at + 1])) for at, (asks, seen) in enumerate(zip(self.asks, self.seen))]

    def bearing(self):
        """The images of all stores that bear the log."""
        return [images for images in self.world.stores
                if all(not told or image == first for told, image, first in zip(self.touched, images, self.versions[0]))]

    def carried(self, images, entries):
        """The images after the layers of some entries are carried in turn; None if one does not sit."""
        for entry in entries:
            images = carried_by_words(self.world, self.changes[entry - 1], images)
            if images is None:
                return None
        return images

    def odd_ask(self, entry, pairs):
        """The number of the first ask of an entry that is not answered alike on all pairs of images, or None."""
        for number, question in enumerate(self.asks[entry - 1]):
            answers = self.world.answers(question)
            if any(answers[one] != answers[other] for one, other in pairs):
                return number
        return None

    def fault(self, entry, ahead, told):
        """What is wrong with an entry: "layer" behind the entries ahead, or an ask behind those it is told, or None."""
        listed = self.bearing()
        if any(self.carried(images, [*ahead, entry]) is None for images in listed):
            return "layer"
        known = range(1, self.seen[entry - 1] + 1)
        return self.odd_ask(entry, [(self.carried(images, known), self.carried(images, told)) for images in listed])

    def first_fault(self, order):
        """The first entry in an order for which something is wrong, with what it is, or None: points 84 and 85."""
        for place, entry in enumerate(order):
            fault = self.fault(entry, order[:place], order[:place])
            if fault is not None:
                return (entry, fault)
        return None

    def taking_fault(self, number):
        """The first other entry for which something is wrong without an entry, with what it is, or None: point 88."""
        left = [entry for entry in range(1, len(self.asks) + 1) if entry != number]
        for place, entry in enumerate(left):
            told = [other for other in left if other <= self.seen[entry - 1]]
            fault = self.fault(entry, left[:place], told)
            if fault is not None:
                return (entry, fault)
        return None
