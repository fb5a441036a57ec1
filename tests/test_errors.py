import keptbase.errors
import keptbase.refusals
from helpers import NO_CONTENTS, KeptCase
from keptbase.errors import KeptError

LISTED = """
InvalidContent(value) InvalidStretch(position) InvalidSpanText(position) InvalidWord(word) Endless()
InvalidName(name) InvalidKeySpan(table) InvalidColumns(table) InvalidDomain(column) InvalidView(test)
NoSuchTable(table) NoSuchColumn(column) NoSuchTest(test) InvalidKey(table,key) InvalidRow(table,value)
RepeatedPlace(table,key) InvalidField(table,field) NotTold(table,key) NotJoined(table,key)
IdleChange(table,key) DoesNotFit(table,key) DoesNotFollow(table,key) DoesNotSit(cell)
InvalidKeyTest(span) InvalidKind(kind) InvalidShown(shown) NotHeaping(kind) NotContained(shown)
DifferentQuestions() SharedCell(first,second,cell) InvalidChoice(number) InvalidSeen(entry) NoSuchEntry(entry)
InvalidOrder(listing) InvalidArrow(arrow) NotLinked(entry,table,key) InvalidCount(question) InvalidBounds(span)
SameTable(table) CommonPlace(table,key)
"""

REFUSALS = """
InvalidMode(mode) NameTaken(name) NoSuchName(name) NoSuchVersion(number) Over(name) Overtaken(cell) Broken(rule)
Ringed(ring_names) Unmatched(name) Busy(name) Heard(name)
"""


class Errors(KeptCase):
    def setUp(self):
        self.listed = {}
        for module, text in ((keptbase.errors, LISTED), (keptbase.refusals, REFUSALS)):
            for word in text.split():
                name, attributes = word.rstrip(")").split("(")
                self.listed[module, name] = attributes.split(",") if attributes else []

    def test_every_listed_error_keeps_its_attributes(self):
        for (module, name), attributes in self.listed.items():
            kind = getattr(module, name)
            for value in NO_CONTENTS:
                values = [value, "second", 3][:len(attributes)]
                for error in (kind(*values), kind(**dict(zip(attributes, values)))):
                    self.assertEqual(list(vars(error)), attributes)
                    for attribute, given in zip(attributes, values):
                        self.assertIs(getattr(error, attribute), given)
                    self.assertIsInstance(str(error), str)

    def test_each_is_a_direct_subclass_of_kept_error(self):
        for module, name in self.listed:
            self.assertEqual(getattr(module, name).__bases__, (KeptError,))
            self.assertEqual(getattr(module, name).__module__, module.__name__)
        self.assertEqual(KeptError.__bases__, (ValueError,))

    def test_there_are_no_others(self):
        own = [(module, name) for module in (keptbase.errors, keptbase.refusals)
               for name, value in vars(module).items() if isinstance(value, type)]
        more = [(keptbase.errors, "KeptError"), (keptbase.refusals, "KeptError")]
        self.assertEqual(sorted(own, key=repr), sorted([*self.listed, *more], key=repr))
