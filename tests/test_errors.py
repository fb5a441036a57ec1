import keptbase.errors
from helpers import NO_CONTENTS, KeptCase
from keptbase.errors import KeptError

LISTED = """
InvalidContent(value) InvalidStretch(position) InvalidSpanText(position) InvalidWord(word) Endless()
InvalidName(name) InvalidKeySpan(table) InvalidColumns(table) InvalidDomain(column) InvalidView(test)
NoSuchTable(table) NoSuchColumn(column) NoSuchTest(test) InvalidKey(table,key) InvalidRow(table,value)
RepeatedPlace(table,key) InvalidField(table,field) NotTold(table,key) NotJoined(table,key)
IdleChange(table,key) DoesNotFit(table,key) DoesNotFollow(table,key) DoesNotSit(cell)
InvalidKeyTest(span) InvalidKind(kind) InvalidShown(shown) NotHeaping(kind) NotContained(shown)
DifferentQuestions() SharedCell(first,second,cell) InvalidChoice(number) InvalidSeen(entry) NoSuchEntry(entry)
InvalidOrder(listing) InvalidArrow(arrow) NotLinked(entry,table,key) InvalidCount(question) InvalidBounds(span)
SameTable(table) CommonPlace(table,key)
"""


class Errors(KeptCase):
    def setUp(self):
        self.listed = {}
        for word in LISTED.split():
            name, attributes = word.rstrip(")").split("(")
            self.listed[name] = attributes.split(",") if attributes else []

    def test_every_listed_error_keeps_its_attributes(self):
        for name, attributes in self.listed.items():
            kind = getattr(keptbase.errors, name)
            for value in NO_CONTENTS:
                values = [value, "second", 3][:len(attributes)]
                for error in (kind(*values), kind(**dict(zip(attributes, values)))):
                    self.assertEqual(list(vars(error)), attributes)
                    for attribute, given in zip(attributes, values):
                        self.assertIs(getattr(error, attribute), given)
                    self.assertIsInstance(str(error), str)

    def test_each_is_a_direct_subclass_of_kept_error(self):
        for name in self.listed:
            self.assertEqual(getattr(keptbase.errors, name).__bases__, (KeptError,))
        self.assertEqual(KeptError.__bases__, (ValueError,))

    def test_there_are_no_others(self):
        own = [name for name, value in vars(keptbase.errors).items() if isinstance(value, type)]
        self.assertEqual(sorted(own), sorted([*self.listed, "KeptError"]))
