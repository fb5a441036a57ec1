from helpers import KeptCase, shop_schema
from keptbase.desk import Desk
from keptbase.questions import Question
from keptbase.reports import report
from keptbase.spans import Span
from keptbase.stores import Store

SHOP = shop_schema()


class Reports(KeptCase):
    def test_empty_desk(self):
        self.assertEqual(report(Desk(SHOP, [], Store(SHOP))), "version 0, mode areas\nserial:\n")
        self.assertEqual(report(Desk(SHOP, [], Store(SHOP), mode="looks")), "version 0, mode looks\nserial:\n")

    def test_all_lines(self):
        base = Store(SHOP, [("note", -3, (-12,)), ("note", 0, (None,)), ("item", 10, (5, None)), ("item", 9, (7, 0))])
        desk = Desk(SHOP, [], base, mode="looks")
        for name, kind, table, shown in (("total", "sum", "item", ["price"]), ("rows", "rows", "item", ["key", "left"]), ("some", "some", "note", []),
                                         ("first", "first", "item", ["left"]), ("any", "greatest", "note", ["cents"])):
            desk.keep(name, Question(SHOP, kind, table, shown))
        put, look = desk.begin("put"), desk.begin("zlook")
        look.hear(Question(SHOP, "sum", "item", ["price"]))
        put.set_cell("item", 9, "price", 8)
        put.commit()
        look.commit()
        with desk.begin("drop") as work:
            work.put_row("note", -3, None)
        with desk.begin("gone") as work:
            work.put_row("note", -3, None)
            work.commit()
        self.assertEqual(report(desk), "version 3, mode looks\nitem 9: 8 0\nitem 10: 5 none\nnote 0: none\ncommit  1 put seen 0\n"
                                       "commit  2 zlook seen 0\ncommit  3 gone seen 2\nserial: zlook put gone\nkept total: 13\n"
                                       "kept rows: [(9, 0), (10, None)]\nkept some: True\nkept first: (9, (0,))\nkept any: None\n")
        desk.undo("put")
        self.assertEqual(report(desk), "version 2, mode looks\nitem 9: 7 0\nitem 10: 5 none\nnote 0: none\ncommit  1 zlook seen 0\n"
                                       "commit  2 gone seen 1\nserial: zlook gone\nkept total: 12\n"
                                       "kept rows: [(9, 0), (10, None)]\nkept some: True\nkept first: (9, (0,))\nkept any: None\n")

    def test_more_than_nine_commits(self):
        desk = Desk(SHOP, [], Store(SHOP))
        for at in range(11):
            with desk.begin(f"w{at}") as work:
                work.sweep("item", Span(), "price", 0)
                work.commit()
        lines = report(desk).split("\n")
        self.assertEqual(lines[9:12], ["commit  9 w8 seen 8", "commit 10 w9 seen 9", "commit 11 w10 seen 10"])
        self.assertEqual(lines[12:], ["serial: " + " ".join(f"w{at}" for at in range(11)), ""])
