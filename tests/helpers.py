"""What the tests share: error checks, values of any kind, and small worlds to try exhaustively."""

import functools
import itertools
import unittest

from keptbase.conditions import Always, Both, CellIn, Condition, Either, KeyIn, Not, Unseen
from keptbase.layers import between
from keptbase.questions import Question
from keptbase.schema import Schema, Table
from keptbase.sights import Sight, sign_of
from keptbase.spans import Span
from keptbase.stores import Store


class EqualToAll:
    """A value that claims to be equal to whatever it is compared with."""

    def __eq__(self, other):
        return True

    def __ne__(self, other):
        return False

    def __hash__(self):
        return 1


class NoTruth:
    """A value that cannot be compared, hashed or asked for its truth."""

    __hash__ = None

    def __eq__(self, other):
        raise AssertionError("compared")

    def __bool__(self):
        raise AssertionError("asked for its truth")


NO_CONTENTS = [True, False, 1.0, 0.5, float("nan"), "1", "", "None", b"1", (), (1,), [], [1], {}, {1},
               object(), int, EqualToAll(), NoTruth(), 1j, range(3), Ellipsis, NotImplemented]


class KeptCase(unittest.TestCase):
    def assert_error(self, kind, told, call, *args, **named):
        """Check that a call raises exactly this error, with exactly these attributes."""
        with self.assertRaises(kind) as caught:
            call(*args, **named)
        error = caught.exception
        self.assertIs(type(error), kind)
        self.assertEqual(list(vars(error)), list(told))
        for name, value in told.items():
            found = getattr(error, name)
            self.assertIs(type(found), type(value), name)
            self.assertTrue(found is value or found == value, name)

    def assert_is(self, truth, value):
        """Check that a value is True or False itself."""
        self.assertIs(value, truth)


def tiny_schema():
    """Two tables: with two keys and two columns, and with one key and one column."""
    first = Table("a", Span([(-1, 0)]), [("x", Span.of(None, 0)), ("y", Span([(1, 2)]))],
                  [("odd", ["y", "x"]), ("low", ["x"])])
    second = Table("b", Span.of(5), [("x", Span([(0, 1)]))])
    return Schema([first, second])


def shop_schema():
    """Tables without limits: endless keys, a domain of all contents, a view in another order."""
    item = Table("item", Span([(1, None)]), [("price", Span([(0, 99)])), ("left", Span.read("none, 0..9"))],
                 [("fragile", ["left", "price"])])
    note = Table("note", Span.numbers(), [("cents", Span.everything())])
    return Schema([item, note])


def rows_of_table(table):
    """All rows of a table with finite domains."""
    return list(itertools.product(*[table.domain_of(column).listed() for column in table.columns]))


def places_of(schema):
    """All places of a schema with finite key spans."""
    return [(table.name, key) for table in schema for key in table.key_span.listed()]


def all_stores(schema):
    """All stores of a finite schema."""
    places = places_of(schema)
    images = [[None, *rows_of_table(schema.table_of(table))] for table, _ in places]
    found = []
    for chosen in itertools.product(*images):
        told = [(*place, image) for place, image in zip(places, chosen) if image is not None]
        found.append(Store(schema, told))
    return found


def all_cells(schema):
    """All cells of a finite schema, in the order of cells."""
    return [(table.name, key, field) for table in schema for key in table.key_span.listed()
            for field in ("there", *table.columns)]


def all_sights(signs):
    """For each choice of truths of some signs a sight that gives them."""
    return [Sight((), [sign for sign, truth in zip(signs, truths) if truth])
            for truths in itertools.product([False, True], repeat=len(signs))]


def cells_apart(first, second):
    """The cells in which two stores differ, told straight from point 14."""
    found = []
    for table, key, field in all_cells(first.schema):
        old, new = first.row(table, key), second.row(table, key)
        if field == "there":
            differ = (old is None) != (new is None)
        else:
            at = first.schema.table_of(table).columns.index(field)
            differ = old is not None and new is not None and old[at] != new[at]
        if differ:
            found.append((table, key, field))
    return found


def true_by_words(condition, table, key, row, sight):
    """Whether a condition is true, told straight from points 31 and 32."""
    kind = type(condition).__name__
    if kind == "KeyIn":
        return key in condition.span
    if kind == "CellIn":
        return row[table.columns.index(condition.column)] in condition.span
    if kind == "Unseen":
        view = table.view_of(condition.test)
        return sight.holds((table.name, condition.test, tuple(row[table.columns.index(column)] for column in view)))
    if kind == "Not":
        return not true_by_words(condition.part, table, key, row, sight)
    if kind in ("Both", "Either"):
        truths = [true_by_words(part, table, key, row, sight) for part in condition.parts]
        return all(truths) if kind == "Both" else any(truths)
    return True


def none_first(contents):
    """By what tuples of contents are sorted (point 0.3)."""
    return [(content is not None, content or 0) for content in contents]


def answer_of_counted(question, counted):
    """The answer told straight from points 34 and 35, from the list of key and row of what counts, by ascending key."""
    columns = question.schema.table_of(question.table).columns
    shown = [tuple(key if name == "key" else row[columns.index(name)] for name in question.shown)
             for key, row in counted]
    if question.kind == "count":
        return len(counted)
    if question.kind == "some":
        return len(counted) > 0
    if question.kind == "rows":
        return sorted(shown, key=none_first)
    if question.kind == "first":
        return (counted[0][0], shown[0]) if counted else None
    integers = [contents[0] for contents in shown if contents[0] is not None]
    if question.kind == "sum":
        return sum(integers)
    if question.kind == "least":
        return min(integers, default=None)
    return max(integers, default=None)


def answer_by_words(question, store, sight):
    """The answer on a store, told straight from the document."""
    table = question.schema.table_of(question.table)
    rows = [(key, row) for name, key, row in store if name == question.table]
    return answer_of_counted(question, [(key, row) for key, row in rows
                                        if true_by_words(question.where, table, key, row, sight)])


class World:
    """All rows, stores and sights of a small table "a", beside which there is another table."""

    def __init__(self, keys, domains, tests):
        self.table = Table("a", keys, domains, tests)
        self.schema = Schema([Table("b", Span.of(1, 2), [("x", Span.of(0, 1))]), self.table])
        self.keys = keys.listed()
        self.rows = rows_of_table(self.table)
        signs = {sign_of(self.table, test, row) for test in self.table.tests for row in self.rows}
        self.signs = sorted(signs, key=repr)
        self.sights = all_sights(self.signs)
        self.stores = list(itertools.product([None, *self.rows], repeat=len(self.keys)))

    def store(self, images):
        """The store with these images, one for each key."""
        return Store(self.schema, [("a", key, row) for key, row in zip(self.keys, images) if row is not None])

    def counts(self, question, key, row):
        """For each sight whether a row counts."""
        return [true_by_words(question.where, self.table, key, row, sight) for sight in self.sights]

    @functools.lru_cache(maxsize=64)
    def answers(self, question):
        """The answers by stores, each a list by sights, told straight from the document."""
        counts = {(key, row): self.counts(question, key, row) for key in self.keys for row in self.rows}
        found = {}
        for images in self.stores:
            rows = [(key, row) for key, row in zip(self.keys, images) if row is not None]
            found[images] = [answer_of_counted(question, [place for place in rows if counts[place][at]])
                             for at in range(len(self.sights))]
        return found

    def steps(self):
        """All pairs of stores that differ in one cell alone, each with the key and the field of this cell."""
        found = []
        for images in self.stores:
            for at, key in enumerate(self.keys):
                if images[at] is None:
                    continue
                found.append((images, (*images[:at], None, *images[at + 1:]), key, "there"))
                for number, column in enumerate(self.table.columns):
                    for row in self.rows:
                        if all((row[i] == images[at][i]) == (i != number) for i in range(len(row))):
                            found.append((images, (*images[:at], row, *images[at + 1:]), key, column))
        return found

    def layer(self, first, second):
        """The layer from one store to another."""
        return between(self.store(first), self.store(second))

    def layers(self, step):
        """Some layers of the table, equally many of each size, as pairs of images by key; None twice is no change."""
        found = {}
        for first, second in itertools.product(self.stores, repeat=2):
            if first != second and all(one != other or one is None for one, other in zip(first, second)):
                size = sum(one != other for one, other in zip(first, second))
                found.setdefault(size, []).append((first, second))
        many = sum(len(listed) for listed in found.values())
        return [pair for listed in found.values() for pair in listed[::max(1, step * len(listed) // many)]]

    def fitted(self, first, second):
        """The stores that a layer fits, each with that to which it leads."""
        for images in self.stores:
            if all(one == other or image == one for image, one, other in zip(images, first, second)):
                led = tuple(image if one == other else other for image, one, other in zip(images, first, second))
                yield images, led

    def told(self, question, layer, sight):
        """The told signs, straight from point 61."""
        found = {}
        for _, _, *images in [change for change in layer if change[0] == "a"]:
            for row, leaf in itertools.product(images, question.where.leaves()):
                if row is not None and isinstance(leaf, Unseen):
                    sign = sign_of(self.table, leaf.test, row)
                    found[sign] = sight.holds(sign)
        return found

    def settings(self, question, first, second):
        """All settings: for each told signs and kept answer the list of store, store after, sight, new answer."""
        answers, layer = self.answers(question), self.layer(first, second)
        found = {}
        for at, sight in enumerate(self.sights):
            told = self.told(question, layer, sight)
            for images, led in self.fitted(first, second):
                kept = answers[images][at]
                group = found.setdefault((repr(sorted(told.items(), key=repr)), repr(kept)), (told, kept, []))
                group[2].append((images, led, sight, answers[led][at]))
        return list(found.values())

    def conditions(self):
        """Conditions of many forms."""
        first, second = Unseen(self.table.tests[0]), Unseen(self.table.tests[1])
        key = KeyIn(Span.of(self.keys[0]))
        none, large = CellIn("x", Span.of(None, 7)), CellIn("y", Span([(3, None)]))
        zero = CellIn("x", Span.of(0))
        return [Always(), Condition(), Both(), Either(), key, KeyIn(Span([(0, None)])), KeyIn(Span()), none, large,
                zero, (zero & first) | ~zero, CellIn("y", Span.everything()), CellIn("x", Span.of(99)), first, ~second,
                first & second, first | ~first, ~(first & first) & second, first & ~first, key | first,
                (key & none) | (~key & second), (first & ~second) | (second & ~first) & none, Both(large, large, first),
                Either(Both(first, none), Both(Not(first), large)), ~(~(first & large) & ~(second & key))]

    def questions(self, every=1, conditions=None):
        """Questions of all kinds with all conditions, or each so many-th of them."""
        where = self.conditions() if conditions is None else conditions
        return [Question(self.schema, kind, "a", shown, where=condition)
                for condition, (kind, shown) in list(itertools.product(where, SHOWN))[::every]]


SHOWN = [("count", []), ("some", []), ("sum", ["x"]), ("sum", ["y"]), ("rows", ["x"]), ("rows", ["key", "y"]),
         ("rows", ["y", "x", "y"]), ("least", ["x"]), ("least", ["y"]), ("greatest", ["x"]), ("greatest", ["y"]),
         ("first", ["y"]), ("first", ["x", "key"])]


def plain_world():
    """A world whose tests see one column each."""
    return World(Span.of(-1, 1), [("x", Span.of(None, 0, 1)), ("y", Span.of(2, 5))], [("odd", ["x"]), ("low", ["y"])])


def mixed_world():
    """A world of which one test sees both columns, in another order."""
    columns = [("x", Span.of(None, 0)), ("y", Span.of(2, 5))]
    return World(Span.of(-1, 1), columns, [("both", ["y", "x"]), ("low", ["y"])])


def narrow_world():
    """A world with one key and small sums."""
    return World(Span.of(3), [("x", Span.of(None, 0)), ("y", Span.of(0, 5))], [("odd", ["x"]), ("low", ["y"])])


def wide_world():
    """A world with three keys."""
    return World(Span.of(-1, 0, 2), [("x", Span.of(None, 0)), ("y", Span.of(2, 5))], [("odd", ["x"]), ("low", ["y"])])
