"""The errors that the package raises.

The messages name no values: these may be of any kind, and are told by the attributes.
"""


class KeptError(ValueError):
    """The base class of all errors that the package raises."""


class InvalidContent(KeptError):
    def __init__(self, value):
        super().__init__("the value is not a content that may stand here")
        self.value = value


class InvalidStretch(KeptError):
    def __init__(self, position):
        super().__init__("the item at this position is not a stretch")
        self.position = position


class InvalidSpanText(KeptError):
    def __init__(self, position):
        super().__init__("the part of the text at this position is not read")
        self.position = position


class InvalidWord(KeptError):
    def __init__(self, word):
        super().__init__("the word is not read as a content")
        self.word = word


class Endless(KeptError):
    def __init__(self):
        super().__init__("what has no end cannot be listed")


class InvalidName(KeptError):
    def __init__(self, name):
        super().__init__("the value is not a name that may be given here")
        self.name = name


class InvalidKeySpan(KeptError):
    def __init__(self, table):
        super().__init__("the key span of the table has no integer, or has None")
        self.table = table


class InvalidColumns(KeptError):
    def __init__(self, table):
        super().__init__("the table has no column or too many of them")
        self.table = table


class InvalidDomain(KeptError):
    def __init__(self, column):
        super().__init__("the domain of the column has fewer than two contents")
        self.column = column


class InvalidView(KeptError):
    def __init__(self, test):
        super().__init__("the test does not view one to three different columns of its table")
        self.test = test


class NoSuchTable(KeptError):
    def __init__(self, table):
        super().__init__("the schema has no table with this name")
        self.table = table


class NoSuchColumn(KeptError):
    def __init__(self, column):
        super().__init__("no column with this name may stand here")
        self.column = column


class NoSuchTest(KeptError):
    def __init__(self, test):
        super().__init__("the table has no unseen test with this name")
        self.test = test


class InvalidKey(KeptError):
    def __init__(self, table, key):
        super().__init__("the key is not in the key span of the table")
        self.table = table
        self.key = key


class InvalidRow(KeptError):
    def __init__(self, table, value):
        super().__init__("the value is not a row of the table")
        self.table = table
        self.value = value


class RepeatedPlace(KeptError):
    def __init__(self, table, key):
        super().__init__("the place is told more than once")
        self.table = table
        self.key = key


class InvalidField(KeptError):
    def __init__(self, table, field):
        super().__init__("the table has no such field")
        self.table = table
        self.field = field


class NotTold(KeptError):
    def __init__(self, table, key):
        super().__init__("the part does not tell the place")
        self.table = table
        self.key = key


class NotJoined(KeptError):
    def __init__(self, table, key):
        super().__init__("the parts tell different images of the place")
        self.table = table
        self.key = key


class IdleChange(KeptError):
    def __init__(self, table, key):
        super().__init__("the old and the new image of the place are equal")
        self.table = table
        self.key = key


class DoesNotFit(KeptError):
    def __init__(self, table, key):
        super().__init__("the store does not have the old image at the place")
        self.table = table
        self.key = key


class DoesNotFollow(KeptError):
    def __init__(self, table, key):
        super().__init__("the second layer does not follow the first one at the place")
        self.table = table
        self.key = key


class DoesNotSit(KeptError):
    def __init__(self, cell):
        super().__init__("the layer does not sit on the store")
        self.cell = cell


class InvalidKeyTest(KeptError):
    def __init__(self, span):
        super().__init__("a span of keys does not have None")
        self.span = span


class InvalidKind(KeptError):
    def __init__(self, kind):
        super().__init__("there is no such kind of question")
        self.kind = kind


class InvalidShown(KeptError):
    def __init__(self, shown):
        super().__init__("the kind of the question does not show this number of names")
        self.shown = shown


class NotHeaping(KeptError):
    def __init__(self, kind):
        super().__init__("the kind of the question is not heaping")
        self.kind = kind


class NotContained(KeptError):
    def __init__(self, shown):
        super().__init__("the answer does not have what is taken away")
        self.shown = shown


class DifferentQuestions(KeptError):
    def __init__(self):
        super().__init__("the questions differ in their kinds, tables or shown names")


class SharedCell(KeptError):
    def __init__(self, first, second, cell):
        super().__init__("two writes have a common cell")
        self.first = first
        self.second = second
        self.cell = cell


class InvalidChoice(KeptError):
    def __init__(self, number):
        super().__init__("the choice for this write is missing or does not suit it")
        self.number = number


class InvalidSeen(KeptError):
    def __init__(self, entry):
        super().__init__("the entry cannot have seen this number of entries")
        self.entry = entry


class NoSuchEntry(KeptError):
    def __init__(self, entry):
        super().__init__("there is no entry with this number")
        self.entry = entry


class InvalidOrder(KeptError):
    def __init__(self, listing):
        super().__init__("the listing is not an order")
        self.listing = listing


class InvalidArrow(KeptError):
    def __init__(self, arrow):
        super().__init__("the pair is not an arrow of the graph")
        self.arrow = arrow


class NotLinked(KeptError):
    def __init__(self, entry, table, key):
        super().__init__("the layer of the entry is not linked at the place")
        self.entry = entry
        self.table = table
        self.key = key


class InvalidCount(KeptError):
    def __init__(self, question):
        super().__init__("the question does not count, or has an unseen test")
        self.question = question


class InvalidBounds(KeptError):
    def __init__(self, span):
        super().__init__("a span of counts does not have None")
        self.span = span


class SameTable(KeptError):
    def __init__(self, table):
        super().__init__("a table cannot refer to itself")
        self.table = table


class CommonPlace(KeptError):
    def __init__(self, table, key):
        super().__init__("both layers have a change at the place")
        self.table = table
        self.key = key
