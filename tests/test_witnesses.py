import itertools

from helpers import (NO_CONTENTS, KeptCase, answer_by_words, cells_apart, mixed_world, narrow_world, plain_world,
                     shop_schema, true_by_words)
from keptbase.conditions import Always, CellIn, Either, KeyIn, Unseen
from keptbase.errors import DifferentQuestions
from keptbase.questions import Question
from keptbase.schema import Schema, Table
from keptbase.spans import Span
from keptbase.stores import Store
from keptbase.witnesses import alike, hiding, parted, witness

WORLDS = [plain_world(), mixed_world(), narrow_world()]
HEAPING = ("count", "sum", "rows")


class Witnesses(KeptCase):
    def check_witness(self, question, cell, found):
        self.assertIs(type(found), tuple)
        first, second, sight = found
        for store in (first, second):
            self.assertTrue(all((table, key) == cell[:2] for table, key, _ in store))
        self.assertNotEqual(answer_by_words(question, first, sight), answer_by_words(question, second, sight))
        if cell[2] == "there":
            self.assertEqual((first.size, second.size), (0, 1))
        else:
            self.assertEqual((first.size, second.size), (1, 1))

    def test_all_cells(self):
        for world, every in zip(WORLDS, (5, 5, 2)):
            steps = world.steps()
            for question in world.questions(every=every):
                answers = world.answers(question)
                cells = {("a", key, field) for first, second, key, field in steps if answers[first] != answers[second]}
                for cell in itertools.product("ab", (*world.keys, 2), ("there", "x", "y")):
                    found = witness(question, cell)
                    if cell not in cells:
                        self.assertIsNone(found)
                        continue
                    self.check_witness(question, cell, found)
                    self.assertEqual(cells_apart(found[0], found[1]), [cell])

    def test_no_cells(self):
        question = Question(WORLDS[0].schema, "count", "a")
        self.assertIsNotNone(witness(question, ("a", 1, "there")))
        for value in ["c", "key", None, *NO_CONTENTS]:
            for cell in ((value, 1, "there"), ("a", value, "there"), ("a", 1, value)):
                self.assertIsNone(witness(question, cell))

    def test_endless_spans(self):
        shop = shop_schema()
        where = (KeyIn(Span([(4, None)])) & Unseen("fragile")) | CellIn("price", Span.of(7))
        for kind, shown in (("count", []), ("sum", ["left"]), ("first", ["price"]), ("greatest", ["left"])):
            question = Question(shop, kind, "item", shown, where=where)
            for key, field in itertools.product((1, 4, 10 ** 12), ("there", "price", "left")):
                found = witness(question, ("item", key, field))
                if found is not None:
                    self.check_witness(question, ("item", key, field), found)
            self.assertIsNone(witness(question, ("item", 0, "there")))


class Alike(KeptCase):
    def test_all_pairs_of_conditions(self):
        for world in WORLDS:
            for kind, shown in (("count", []), ("sum", ["x"]), ("least", ["x"]), ("first", ["key"]), ("rows", ["y"])):
                questions = world.questions(conditions=world.conditions()[::2])
                questions = [question for question in questions if (question.kind, question.shown) == (kind, tuple(shown))]
                asked = [Question(world.schema, kind, "a", shown, where=question.where) for question in questions]
                answers = [world.answers(question) for question in asked]
                for (one, first), (other, second) in itertools.product(list(zip(asked, answers)), repeat=2):
                    self.assert_is(first == second, alike(one, other))
                    self.check_parted(world, one, other, first == second)

    def check_parted(self, world, one, other, equal):
        found = parted(one, other)
        if equal:
            self.assertIsNone(found)
            return
        self.assertIs(type(found), tuple)
        store, sight = found
        self.assertEqual((type(store), store.size), (Store, 1))
        self.assertNotEqual(answer_by_words(one, store, sight), answer_by_words(other, store, sight))

    def test_different_questions(self):
        schema = WORLDS[0].schema
        listed = [Question(schema, kind, table, shown) for table in ("a", "b") for kind, shown in
                  (("count", []), ("some", []), ("sum", ["x"]), ("least", ["x"]), ("greatest", ["x"]), ("rows", ["x"]),
                   ("rows", ["x", "x"]), ("rows", ["key"]), ("first", ["x"]), ("first", ["x", "key"]), ("first", ["key", "x"]))]
        for (at, one), (place, other) in itertools.product(enumerate(listed), repeat=2):
            if at != place:
                self.assert_error(DifferentQuestions, {}, alike, one, other)
                self.assert_error(DifferentQuestions, {}, parted, one, other)
            else:
                self.assert_is(True, alike(one, other))

    def test_rows_that_contribute_nothing_make_no_difference(self):
        schema = Schema([Table("a", Span.numbers(), [("x", Span.of(None, 0, 4))])])
        for kind, contents, equal in (("sum", (None, 0), True), ("sum", (None, 4), False), ("least", (None,), True),
                                      ("least", (0,), False), ("rows", (None,), False)):
            without = Question(schema, kind, "a", ["x"], where=CellIn("x", ~Span.of(*contents)))
            self.assert_is(equal, alike(Question(schema, kind, "a", ["x"]), without))

    def test_many_leaves(self):
        spans = [Span([(at + 50 * step, at + 50 * step + 20 + at) for step in range(12)]) for at in range(8)]
        schema = Schema([Table("a", Span.numbers(), [(name, Span.everything()) for name in "wxyz"])])
        leaves = [CellIn("wxyz"[at % 4], span) for at, span in enumerate(spans)]
        whole = Either(*[leaves[at] & leaves[at + 1] for at in range(0, 8, 2)])
        turned = ~(Either(~leaves[0], ~leaves[1]) & Either(~leaves[2], ~leaves[3]) & ~(leaves[4] & leaves[5])
                   & ~(leaves[7] & leaves[6]))
        one, other = [Question(schema, "count", "a", where=where) for where in (whole, turned)]
        self.assert_is(True, alike(one, other))
        less = Question(schema, "count", "a", where=turned & ~CellIn("y", Span.of(214)))
        store, sight = parted(one, less)
        self.assertNotEqual(answer_by_words(one, store, sight), answer_by_words(less, store, sight))


class Hiding(KeptCase):
    def test_all_questions_of_small_worlds(self):
        for world in WORLDS:
            for question in world.questions(every=3):
                self.check_hiding(world, question, self.joint(world, question))

    def joint(self, world, question):
        """Whether two rows at two different keys both contribute under one sight."""
        contributing = {}
        for key, row in itertools.product(world.keys, world.rows):
            counts = world.counts(question, key, row)
            if question.kind in ("least", "greatest") and row[world.table.columns.index(question.shown[0])] is None:
                counts = [False] * len(counts)
            contributing[key] = [one or other for one, other in zip(contributing.get(key, counts), counts)]
        pairs = itertools.combinations(contributing.values(), 2)
        return any(one and other for first, second in pairs for one, other in zip(first, second))

    def check_hiding(self, world, question, joint):
        found = hiding(question)
        if question.kind in HEAPING or not joint:
            self.assertIsNone(found)
            return
        self.assertIs(type(found), tuple)
        *stores, sight = found
        first, second, third = stores
        self.assertTrue(all(store.size <= 1 for store in stores))
        self.assertFalse(set(third.places()) & {*first.places(), *second.places()})
        self.assertNotEqual(*[answer_by_words(question, store, sight) for store in (first, second)])
        both = [Store(world.schema, [*store, *third]) for store in (first, second)]
        self.assertEqual(*[answer_by_words(question, store, sight) for store in both])

    def test_heaping_kinds_are_never_hidden(self):
        world = WORLDS[2]
        questions = [Question(world.schema, kind, "a", shown) for kind, shown in (("count", []), ("sum", ["y"]), ("rows", ["x"]))]
        self.assertEqual([hiding(question) for question in questions], [None, None, None])

    def test_one_row_under_each_sight(self):
        # Rows at the two keys contribute, but not under one sight: they have one sign, with both truths.
        schema = Schema([Table("a", Span.of(1, 2), [("x", Span.of(0, 1)), ("y", Span.of(0, 1))], [("t", ["x"])])])
        apart = Either(KeyIn(Span.of(1)) & Unseen("t"), KeyIn(Span.of(2)) & ~Unseen("t"))
        one = CellIn("x", Span.of(0))
        self.assertIsNone(hiding(Question(schema, "some", "a", where=apart & one)))
        self.assertIsNone(hiding(Question(schema, "some", "a", where=KeyIn(Span.of(1)))))
        found = hiding(Question(schema, "some", "a", where=apart))
        self.assertIsNotNone(found)
        rows = [row for store in found[:3] for _, _, row in store]
        self.assertNotEqual(rows[0][0], rows[1][0])

    def test_endless_spans(self):
        shop = shop_schema()
        for kind, shown in (("some", []), ("least", ["left"]), ("greatest", ["price"]), ("first", ["key"])):
            for where in (Always(), Unseen("fragile"), CellIn("price", Span.of(3)) & Unseen("fragile")):
                question = Question(shop, kind, "item", shown, where=where)
                first, second, third, sight = hiding(question)
                self.assertNotEqual(*[answer_by_words(question, store, sight) for store in (first, second)])
                both = [Store(shop, [*store, *third]) for store in (first, second)]
                self.assertEqual(*[answer_by_words(question, store, sight) for store in both])
                table = shop.table_of("item")
                for _, key, row in [*first, *second, *third]:
                    self.assertTrue(true_by_words(where, table, key, row, sight))
        self.assertIsNone(hiding(Question(shop, "count", "item", where=Unseen("fragile"))))
