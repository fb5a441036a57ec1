from helpers import NO_CONTENTS, KeptCase, answer_by_words, shop_schema
from keptbase.conditions import KeyIn, Unseen
from keptbase.desk import Desk
from keptbase.errors import InvalidChoice, InvalidKey, NoSuchColumn, NoSuchTable, SharedCell
from keptbase.layers import Layer
from keptbase.questions import Question
from keptbase.refusals import Over, Overtaken
from keptbase.sights import Sight
from keptbase.spans import Span
from keptbase.stores import Store
from keptbase.transactions import Transaction
from keptbase.works import Work
from keptbase.writes import PutRow, SetCell, Sweep

SHOP = shop_schema()
BASE = Store(SHOP, [("item", 1, (5, 3)), ("item", 2, (7, None)), ("item", 4, (5, 0)), ("note", -2, (9,))])
TOTAL = Question(SHOP, "sum", "item", ["price"])
FRAGILE = Question(SHOP, "rows", "item", ["key"], where=Unseen("fragile"))


def begun(mode="areas", name="one", sight=None):
    return Desk(SHOP, [], BASE, sight=sight, mode=mode).begin(name)


class Works(KeptCase):
    def test_attributes(self):
        desk = Desk(SHOP, [], BASE)
        work = desk.begin("one")
        self.assertEqual((type(work), work.name, work.seen, work.over), (Work, "one", 0, False))
        self.assertIs(type(work.over), bool)
        work.set_cell("item", 1, "left", 9)
        work.commit()
        other = desk.begin("two")
        self.assertEqual((other.seen, other.over, work.seen, work.over), (1, False, 0, True))

    def test_hear(self):
        sight = Sight([("item", "fragile")], [("item", "fragile", (0, 5))])
        for given in (None, sight):
            work = begun(sight=given)
            for question in (TOTAL, FRAGILE, TOTAL, Question(SHOP, "first", "note", ["cents"])):
                expected = answer_by_words(question, BASE, Sight() if given is None else given)
                found = work.hear(question)
                self.assertEqual((type(found), found), (type(expected), expected))
            self.assertEqual(work.as_transaction().asks[:3], (TOTAL, FRAGILE, TOTAL))

    def test_sees_neither_its_own_writes_nor_later_commits(self):
        desk = Desk(SHOP, [], BASE)
        work, other = desk.begin("one"), desk.begin("two")
        self.assertEqual(work.hear(TOTAL), 17)
        self.assertEqual(work.set_cell("item", 1, "price", 9), [(5,)])
        self.assertEqual(work.hear(TOTAL), 17)
        other.set_cell("item", 2, "price", 50)
        other.commit()
        self.assertEqual((work.hear(TOTAL), other.seen), (17, 0))
        self.assertEqual(work.sweep("item", Span([(2, 9)]), "price", 1), [(2, 7), (4, 5)])
        self.assertEqual(desk.begin("three").hear(TOTAL), 60)

    def test_answers_of_writes(self):
        work = begun()
        self.assertEqual(work.set_cell("item", 2, "left", 4), [(None,)])
        self.assertEqual(work.set_cell("item", 3, "left", 4), [])
        self.assertEqual(work.put_row("item", 4, None), [(5, 0)])
        self.assertEqual(work.put_row("note", 3, (1,)), [])
        self.assertEqual(work.sweep("note", Span([(-5, 2)]), "cents", None), [(-2, 9)])
        self.assertEqual(work.sweep("item", Span(), "price", 4), [])
        self.assertEqual(work.sweep("item", Span([(-3, 0)]), "price", 4), [])

    def test_as_transaction(self):
        work = begun()
        self.assertEqual((work.as_transaction().asks, work.as_transaction().writes), ((), ()))
        work.put_row("item", 4, (1, 1))
        work.hear(TOTAL)
        work.sweep("note", Span([(0, None)]), "cents", 4)
        work.hear(FRAGILE)
        work.set_cell("item", 2, "left", 4)
        found = work.as_transaction()
        self.assertEqual((type(found), found.schema, found.asks), (Transaction, SHOP, (TOTAL, FRAGILE)))
        self.assertEqual([type(write) for write in found.writes], [PutRow, Sweep, SetCell])
        self.assertEqual([list(vars(write).values()) for write in found.writes],
                         [["item", 4], ["note", Span([(0, None)]), "cents"], ["item", 2, "left"]])

    def test_as_layer(self):
        work = begun()
        self.assertEqual(work.as_layer(), Layer(SHOP))
        work.put_row("item", 4, None)
        work.set_cell("item", 2, "left", 4)
        work.set_cell("item", 9, "left", 4)
        work.sweep("item", Span([(None, 1)]), "price", 8)
        work.put_row("note", -2, (9,))
        changes = [("item", 1, (5, 3), (8, 3)), ("item", 2, (7, None), (7, 4)), ("item", 4, (5, 0), None)]
        self.assertEqual((type(work.as_layer()), list(work.as_layer())), (Layer, changes))
        work.put_row("item", 9 + 1, (1, 1))
        work.commit()
        self.assertEqual(list(work.as_layer()), [*changes, ("item", 10, None, (1, 1))])

    def test_a_row_and_its_cells(self):
        """Writes have no common cell, so their order does not matter to the effect."""
        work = begun()
        work.put_row("item", 7, (1, 1))
        work.sweep("item", Span([(None, 6)]), "left", 5)
        self.assertEqual([change[1:] for change in work.as_layer()], [(1, (5, 3), (5, 5)), (2, (7, None), (7, 5)), (4, (5, 0), (5, 5)), (7, None, (1, 1))])

    def test_errors_of_writes(self):
        work = begun()
        work.set_cell("item", 1, "price", 9)
        work.sweep("note", Span([(3, 5)]), "cents", 9)
        before = (work.as_layer(), len(work.as_transaction().writes))
        for wrong in ("none", None, *NO_CONTENTS):
            self.assert_error(NoSuchTable, {"table": wrong}, work.set_cell, wrong, wrong, wrong, "no")
            self.assert_error(NoSuchTable, {"table": wrong}, work.put_row, wrong, wrong, "no")
            self.assert_error(NoSuchTable, {"table": wrong}, work.sweep, wrong, Span(), wrong, "no")
            self.assert_error(NoSuchColumn, {"column": wrong}, work.set_cell, "item", 1, wrong, "no")
            self.assert_error(NoSuchColumn, {"column": wrong}, work.sweep, "item", Span(), wrong, "no")
        for wrong in (0, None, *NO_CONTENTS):
            self.assert_error(InvalidKey, {"table": "item", "key": wrong}, work.set_cell, "item", wrong, "none", "no")
            self.assert_error(InvalidKey, {"table": "item", "key": wrong}, work.put_row, "item", wrong, "no")
        for wrong in (-1, 100, None, *NO_CONTENTS):
            self.assert_error(InvalidChoice, {"number": 2}, work.set_cell, "item", 1, "price", wrong)
            self.assert_error(InvalidChoice, {"number": 2}, work.sweep, "item", Span([(1, 4)]), "price", wrong)
            self.assert_error(InvalidChoice, {"number": 2}, work.sweep, "item", Span(), "price", wrong)
        for wrong in ((1,), (1, 2, 3), (100, 1), [1, 1], (1, True), 5, *NO_CONTENTS):
            self.assert_error(InvalidChoice, {"number": 2}, work.put_row, "item", 1, wrong)
        self.assert_error(SharedCell, {"first": 0, "second": 2, "cell": ("item", 1, "price")}, work.set_cell, "item", 1, "price", 4)
        self.assert_error(SharedCell, {"first": 0, "second": 2, "cell": ("item", 1, "price")}, work.put_row, "item", 1, None)
        self.assert_error(SharedCell, {"first": 0, "second": 2, "cell": ("item", 1, "price")}, work.sweep, "item", Span.numbers(), "price", 4)
        self.assert_error(SharedCell, {"first": 1, "second": 2, "cell": ("note", 4, "cents")}, work.sweep, "note", Span([(4, 9)]), "cents", 4)
        self.assert_error(SharedCell, {"first": 1, "second": 2, "cell": ("note", 4, "cents")}, work.put_row, "note", 4, None)
        self.assertEqual((work.as_layer(), len(work.as_transaction().writes), work.over), (*before, False))
        self.assertEqual(work.set_cell("item", 1, "left", 9), [(3,)])
        self.assert_error(SharedCell, {"first": 0, "second": 3, "cell": ("item", 1, "price")}, work.put_row, "item", 1, None)

    def test_sweeps_of_no_cell(self):
        work = begun()
        for _ in range(3):
            work.sweep("item", Span(), "price", 4)
        self.assertEqual((len(work.as_transaction().writes), work.as_layer()), (3, Layer(SHOP)))

    def test_over(self):
        for mode in ("areas", "looks"):
            for way in ("commit", "drop", "with", "refused"):
                desk = Desk(SHOP, [], BASE, mode=mode)
                work, other = desk.begin("one"), desk.begin("two")
                for one in (work, other):
                    one.set_cell("item", 1, "price", 9 if one is work else 8)
                if way == "with":
                    with work:
                        self.assert_is(False, work.over)
                elif way == "refused":
                    other.commit()
                    self.assert_error(Overtaken, {"cell": ("item", 1, "price")}, work.commit)
                else:
                    getattr(work, way)()
                self.assert_is(True, work.over)
                for call in (lambda: work.hear(TOTAL), lambda: work.set_cell("none", 1, 2, 3), lambda: work.put_row("none", 1, 2),
                             lambda: work.sweep("none", Span(), 1, 2), work.commit):
                    self.assert_error(Over, {"name": "one"}, call)
                work.drop()
                self.assertEqual(list(work.as_layer()), [("item", 1, (5, 3), (9, 3))])
                self.assertEqual((len(work.as_transaction().writes), work.over), (1, True))
                self.assertEqual(desk.version, 1 if way in ("commit", "refused") else 0)

    def test_with(self):
        desk = Desk(SHOP, [], BASE)
        with desk.begin("one") as work:
            self.assertEqual((type(work), work.name, desk.open_works()), (Work, "one", [work]))
            work.set_cell("item", 1, "price", 9)
            self.assertEqual(work.commit(), 1)
        self.assertEqual((work.over, desk.version), (True, 1))
        with self.assertRaises(ZeroDivisionError):
            with desk.begin("two") as other:
                other.set_cell("item", 1, "price", 4)
                raise ZeroDivisionError
        self.assertEqual((other.over, desk.version, desk.open_works()), (True, 1, []))
        with desk.begin("two") as again, desk.begin("three") as third:
            again.drop()
        self.assertEqual((again.over, third.over, desk.names), (True, True, ["one"]))

    def test_lists_are_new(self):
        work = begun()
        question = Question(SHOP, "rows", "item", ["price"], where=KeyIn(Span.of(1)))
        work.hear(question).append("more")
        work.set_cell("item", 1, "price", 3).append("more")
        self.assertEqual((work.hear(question), work.commit()), ([(5,)], 1))
