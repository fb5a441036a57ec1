import itertools

from helpers import KeptCase, mixed_world, plain_world, shop_schema, true_by_words
from keptbase.conditions import CellIn, Either, KeyIn, Unseen
from keptbase.questions import Question
from keptbase.reach import reach_keys, reaching
from keptbase.schema import Schema, Table
from keptbase.spans import Span

OTHERS = {("b", "odd", (0,)): True, ("a", "none", (0,)): True}


def told_sets(world):
    signs = world.signs
    return [{}, {signs[0]: True}, {sign: True for sign in signs}, {sign: False for sign in signs}, OTHERS,
            {**{sign: at % 3 == 0 for at, sign in enumerate(signs)}, **OTHERS}, {sign: False for sign in signs[::2]}]


class Reach(KeptCase):
    def test_all_questions_of_small_worlds(self):
        for world in (plain_world(), mixed_world()):
            for question, told in itertools.product(world.questions(every=5), told_sets(world)):
                known = {sign: truth for sign, truth in told.items() if sign in world.signs}
                agreeing = [sight for sight in world.sights if sight.agrees(known)]
                keys = [key for key in world.keys for row in world.rows for sight in agreeing
                        if true_by_words(question.where, world.table, key, row, sight)]
                self.assertEqual(reach_keys(question, told), Span.of(*keys))
                self.check_reaching(question, told, Span.of(*keys))

    def check_reaching(self, question, told, keys):
        found = reaching(question, told)
        if not keys:
            self.assertIsNone(found)
            return
        self.assertIs(type(found), tuple)
        key, row, sight = found
        self.assertEqual(key, keys.nearest(0))
        self.assertTrue(sight.agrees(told))
        table = question.schema.table_of(question.table)
        self.assertTrue(all(content in table.domain_of(column) for content, column in zip(row, table.columns)))
        self.assertTrue(true_by_words(question.where, table, key, row, sight))

    def test_rows_that_contribute_nothing_count(self):
        schema = Schema([Table("a", Span.numbers(), [("x", Span.of(None, 0))])])
        for kind in ("sum", "least"):
            question = Question(schema, kind, "a", ["x"], where=CellIn("x", Span.of(None)))
            self.assertEqual(reach_keys(question, {}), Span.numbers())
            self.assertEqual(reaching(question, {})[:2], (0, (None,)))

    def test_several_tests_told_at_once(self):
        world = mixed_world()
        question = Question(world.schema, "count", "a", where=Unseen("both") & Unseen("low"))
        told = {("a", "both", (2, None)): False, ("a", "low", (5,)): False}
        self.assertEqual(reach_keys(question, told), Span.of(-1, 1))
        self.check_reaching(question, told, Span.of(-1, 1))
        self.assertEqual(reaching(question, told)[1], (0, 2))
        self.assertIsNone(reaching(question, {**told, ("a", "both", (2, 0)): False}))

    def test_endless_keys(self):
        shop = shop_schema()
        question = Question(shop, "count", "item", where=KeyIn(Span([(None, 3), (7, None)])) & Unseen("fragile"))
        self.assertEqual(reach_keys(question, {}), Span([(1, 3), (7, None)]))
        told = {("item", "fragile", (left, price)): False for left in (None, *range(10)) for price in range(100)}
        self.assertEqual(reach_keys(question, told), Span())
        self.assertIsNone(reaching(question, told))
        del told["item", "fragile", (4, 50)]
        self.assertEqual(reach_keys(question, told), Span([(1, 3), (7, None)]))
        self.check_reaching(question, told, Span([(1, 3), (7, None)]))
        either = Question(shop, "count", "note", where=Either(KeyIn(Span([(9, None)])), KeyIn(Span.of(-4, 4))))
        self.assertEqual(reaching(either, {})[0], -4)
        far = KeyIn(Span([(9, None)])) & CellIn("cents", Span.of(1))
        near = KeyIn(Span.of(-4, 4)) & CellIn("cents", Span.of(None))
        self.assertEqual(reaching(Question(shop, "count", "note", where=far | near), {})[:2], (-4, (None,)))

    def test_told_signs_are_not_changed(self):
        question = Question(shop_schema(), "count", "item", where=Unseen("fragile"))
        told = {("item", "fragile", (0, 0)): False}
        reaching(question, told)
        self.assertEqual(told, {("item", "fragile", (0, 0)): False})
