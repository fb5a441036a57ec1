"""Part 7: told on all settings of small worlds; mending, rest questions, bringing on and parting together."""

import functools
import itertools

from helpers import KeptCase, answer_by_words, mixed_world, narrow_world, plain_world, shop_schema, wide_world
from keptbase.answers import answer, combine
from keptbase.areas import Area
from keptbase.conditions import Always, CellIn, KeyIn, Unseen
from keptbase.footprints import footprint
from keptbase.grips import layer_area
from keptbase.keptparting import kept_parting
from keptbase.layers import Layer
from keptbase.looks import look
from keptbase.mending import brought_on, mended
from keptbase.questions import Question
from keptbase.resting import finished, rest_question
from keptbase.schema import Schema, Table
from keptbase.sights import Sight
from keptbase.spans import Span
from keptbase.stores import Store
from keptbase.witnesses import alike

WORLDS = [(plain_world(), 23, 290), (mixed_world(), 17, 60), (wide_world(), 29, 700), (narrow_world(), 4, 4)]
HEAPING = ("count", "sum", "rows")


@functools.lru_cache(maxsize=1)
def small_settings():
    """Many questions with layers, told signs and kept answers of small worlds, each with all its settings."""
    found = []
    for world, every, step in WORLDS:
        for at, question in enumerate(world.questions(every=every)):
            for first, second in world.layers(step)[at % 5::4]:
                layer = world.layer(first, second)
                for told, kept, settings in world.settings(question, first, second)[::2]:
                    found.append((world, question, layer, told, kept, settings))
    return found


class AllSettings(KeptCase):
    def test_determined_exactly_if_the_new_answer_is_the_same_in_all_settings(self):
        seen = set()
        for _, question, layer, _, kept, settings in small_settings():
            news = []
            for *_, new in settings:
                if new not in news:
                    news.append(new)
            sight = settings[len(settings) // 2][2]
            found = mended(question, layer, sight, kept)
            self.assertIs(type(found), list)
            self.assertEqual(found, news if len(news) == 1 else [])
            self.assert_is(found != [], rest_question(question, layer, sight, kept) is None)
            if found:
                self.assertIs(type(found[0]), type(news[0]))
            seen.add((question.kind, found != []))
        kinds = [(kind, True) for kind in (*HEAPING, "some", "least", "greatest", "first")]
        self.assertEqual(seen, {*kinds, ("some", False), ("least", False), ("greatest", False), ("first", False)})

    def test_rest_questions(self):
        for world, question, layer, _, kept, settings in small_settings():
            sight = settings[0][2]
            rest = rest_question(question, layer, sight, kept)
            if rest is None:
                continue
            self.assertIs(type(rest), Question)
            self.assertEqual((rest.schema, rest.kind, rest.table, rest.shown), (world.schema, question.kind, "a", question.shown))
            new = answer_by_words(question, layer.new.as_store(), sight)
            told = []
            for images, led, own, known in settings:
                heard = answer_by_words(rest, world.store(images), own)
                self.assertEqual(answer_by_words(rest, world.store(led), own), heard)
                self.assertEqual(known, combine(question, new, heard))
                self.assertEqual(known, finished(question, layer, own, heard))
                told.append((repr(known), repr(heard)))
            self.assertEqual(len(set(told)), len({known for known, _ in told}))
            self.assertEqual(len(set(told)), len({heard for _, heard in told}))
            self.assertFalse(look(rest, layer))
            area = footprint(rest)
            self.assertTrue(area.within(footprint(question)))
            touched = [("a", field, Span.of(*layer.old.told_keys("a"))) for field in ("there", "x", "y")]
            self.assertFalse(area.meets(Area(world.schema, touched)))

    def test_which_rows_the_rest_question_is_about(self):
        for world, question, layer, _, kept, settings in small_settings():
            sight = settings[-1][2]
            rest = rest_question(question, layer, sight, kept)
            if rest is None:
                continue
            new = answer_by_words(question, layer.new.as_store(), sight)
            for key, row in itertools.product(world.keys, world.rows):
                asked = self.is_asked(world, question, layer, kept, new, key, row)
                expected = [asked and truth for truth in world.counts(question, key, row)]
                self.assertEqual(world.counts(rest, key, row), expected)

    def is_asked(self, world, question, layer, kept, new, key, row):
        """Whether the rest question is about a row if it counts, by points 64 to 66."""
        if key in layer.old.told_keys("a"):
            return False
        if question.kind == "some":
            return True
        if question.kind == "first":
            return key > kept[0] and (new is None or key < new[0])
        content = row[world.table.columns.index(question.shown[0])]
        if content is None:
            return False
        if question.kind == "least":
            return content >= kept and (new is None or content < new)
        return content <= kept and (new is None or content > new)

    def test_only_told_signs_matter(self):
        for _, question, layer, told, kept, settings in small_settings():
            sights = [settings[0][2], Sight(exceptions=[sign for sign, truth in told.items() if truth]),
                      Sight(defaults=[("a", "odd"), ("a", "low"), ("a", "both")]).with_told(told)]
            found = [mended(question, layer, sight, kept) for sight in sights]
            rests = [rest_question(question, layer, sight, kept) for sight in sights]
            self.assertEqual(found, [found[0]] * 3)
            for rest in rests[1:]:
                self.assert_is(rests[0] is None, rest is None)
                if rest is not None:
                    self.assertTrue(alike(rests[0], rest))
                    heard = answer_by_words(rest, Store(question.schema), sights[0])
                    self.assertEqual(len({repr(finished(question, layer, sight, heard)) for sight in sights}), 1)

    def test_brought_on(self):
        for world, question, layer, _, kept, settings in small_settings():
            for images, led, sight, new in settings[::5]:
                for store in (world.store(images), world.store(led)):
                    found = brought_on(question, layer, sight, kept, store)
                    self.assertEqual(found, new)
                    self.assertIs(type(found), type(new))

    def test_two_settings_show_what_is_not_determined(self):
        for world, question, layer, told, kept, settings in small_settings():
            sight = settings[0][2]
            found = kept_parting(question, layer, sight, kept)
            if mended(question, layer, sight, kept):
                self.assertIsNone(found)
                continue
            self.assertEqual([type(found), *[type(setting) for setting in found]], [tuple] * 3)
            (first, known), (second, other) = found
            self.assertEqual(first, layer.old.as_store())
            self.assertTrue(known.agrees({sign: sight.holds(sign) for sign in world.signs}))
            more = [place for place in second.places() if place not in first.places()]
            self.assertEqual([table for table, _ in more], ["a"])
            self.assertNotIn(more[0], layer.places())
            self.assertEqual(second.without(*more[0]), first)
            self.assertTrue(other.agrees(told))
            for store, own in found:
                self.assertEqual(answer_by_words(question, store, own), kept)
            self.assertNotEqual(*[answer_by_words(question, layer.lead(store), own) for store, own in found])

    def test_blank_exactly_if_every_kept_answer_stays(self):
        for world, every, step in WORLDS:
            for question, (first, second) in itertools.product(world.questions(every=every), world.layers(step)):
                layer = world.layer(first, second)
                stays = all(mended(question, layer, settings[0][2], kept) == [kept]
                            for _, kept, settings in world.settings(question, first, second))
                self.assert_is(stays, not look(question, layer))
                if not layer_area(layer).meets(footprint(question)):
                    self.assertTrue(stays)


class ByHand(KeptCase):
    def setUp(self):
        self.schema = Schema([Table("a", Span([(1, None)]), [("n", Span.everything())], [("odd", ["n"])]),
                              Table("b", Span.numbers(), [("n", Span.numbers())])])

    def ask(self, kind, shown=(), where=None):
        return Question(self.schema, kind, "a", shown, where=where)

    def layer(self, *changes):
        return Layer(self.schema, [("a", *change) for change in changes])

    def test_worked_example(self):
        schema = Schema([Table("a", Span.read("1.."), [("n", Span.numbers())])])
        least = Question(schema, "least", "a", ["n"])
        more = Layer(schema, [("a", 2, (10,), (15,))])
        found = [mended(least, more, Sight(), 10), mended(least, more, Sight(), 4), mended(least, -more, Sight(), 15)]
        self.assertEqual(found, [[], [4], [10]])

    def test_some(self):
        some, gone = self.ask("some"), self.layer((2, (1,), None))
        cases = [(gone, True, []), (-gone, False, [True]), (-gone, True, [True]), (self.layer((2, (1,), (2,))), True, [True]),
                 (Layer(self.schema), True, [True]), (Layer(self.schema), False, [False])]
        for layer, kept, found in cases:
            self.assertEqual(mended(some, layer, Sight(), kept), found)
        known = self.ask("some", where=KeyIn(Span.of(2)))
        self.assertEqual(mended(known, gone, Sight(), True), [False])
        unseen = self.ask("some", where=CellIn("n", Span.of(1)) & Unseen("odd"))
        sign = ("a", "odd", (1,))
        self.assertEqual(mended(unseen, gone, Sight((), [sign]), True), [])
        self.assertEqual(mended(unseen, gone, Sight(), True), [True])

    def test_told_signs_that_let_no_row_count(self):
        schema = Schema([Table("a", Span.numbers(), [("n", Span.of(0, 1))], [("odd", ["n"])])])
        some = Question(schema, "some", "a", where=KeyIn(Span.of(1)) | ~Unseen("odd"))
        layer = Layer(schema, [("a", 1, (0,), None), ("a", 2, None, (1,))])
        signs = [("a", "odd", (0,)), ("a", "odd", (1,))]
        self.assertEqual(mended(some, layer, Sight((), signs), True), [False])
        self.assertIsNone(rest_question(some, layer, Sight((), signs), True))
        self.assertIsNone(kept_parting(some, layer, Sight((), signs), True))
        self.assertEqual(mended(some, layer, Sight((), signs[1:]), True), [True]
                         if answer(some, layer.new, Sight((), signs[1:])) else [])

    def test_least_and_greatest(self):
        least, greatest = self.ask("least", ["n"]), self.ask("greatest", ["n"])
        worse, gone, none = self.layer((2, (0,), (9,))), self.layer((2, (0,), None)), self.layer((2, (0,), (None,)))
        cases = [(least, worse, 0, []), (least, worse, -1, [-1]), (least, -worse, 9, [0]), (least, -worse, 3, [0]),
                 (least, -worse, None, [0]), (least, gone, 0, []), (least, -gone, None, [0]), (least, none, 0, []),
                 (least, self.layer((2, (None,), None)), None, [None]), (least, self.layer((3, None, (0,))), 0, [0]),
                 (greatest, -worse, 9, []), (greatest, worse, 0, [9]), (greatest, worse, 4, [9]), (greatest, gone, 7, [7]),
                 (greatest, self.layer((2, (0,), (-1,))), 0, []), (greatest, none, 0, []), (greatest, -none, None, [0])]
        for question, layer, kept, found in cases:
            self.assertEqual(mended(question, layer, Sight(), kept), found, (question.kind, list(layer), kept))
        above = self.ask("least", ["n"], where=CellIn("n", Span.of(0, 9, 12)))
        self.assertEqual(mended(above, worse, Sight(), 0), [])
        self.assertEqual(mended(self.ask("least", ["n"], where=KeyIn(Span.of(2))), worse, Sight(), 0), [9])
        rest = rest_question(least, worse, Sight(), 0)
        store = Store(self.schema, [("a", 1, (-1,)), ("a", 3, (8,)), ("a", 4, (9,)), ("a", 5, (None,)), ("a", 2, (3,))])
        self.assertEqual(answer(rest, store, Sight()), 8)

    def test_first(self):
        first = self.ask("first", ["n"])
        later = self.layer((2, (7,), None), (6, None, (5,)))
        cases = [(later, (2, (7,)), []), (later, (1, (0,)), [(1, (0,))]), (-later, (6, (5,)), [(2, (7,))]),
                 (self.layer((2, (7,), (8,))), (2, (7,)), [(2, (8,))]),
                 (self.layer((2, (7,), None), (3, None, (1,))), (2, (7,)), [(3, (1,))]),
                 (self.layer((2, (7,), None)), (2, (7,)), []), (self.layer((2, None, (7,))), None, [(2, (7,))]),
                 (self.layer((2, None, (7,))), (2 + 1, (4,)), [(2, (7,))])]
        for layer, kept, found in cases:
            self.assertEqual(mended(first, layer, Sight(), kept), found, (list(layer), kept))
        rest = rest_question(first, later, Sight(), (2, (7,)))
        rows = [("a", key, (key,)) for key in (1, 2, 3, 5, 6, 7)]
        keys = [key for key in range(1, 9) if answer(rest, Store(self.schema, [row for row in rows if row[1] == key]), Sight())]
        self.assertEqual(keys, [3, 5])

    def test_heaping(self):
        layer = self.layer((2, (7,), None), (6, None, (5,)), (8, None, (5,)))
        self.assertEqual(mended(self.ask("count"), layer, Sight(), 3), [4])
        self.assertEqual(mended(self.ask("sum", ["n"]), layer, Sight(), 0), [3])
        for kept in ([(7,), (0,)], ((0,), (7,))):
            self.assertEqual(mended(self.ask("rows", ["n"]), layer, Sight(), kept), [[(0,), (5,), (5,)]])
        self.assertEqual(mended(self.ask("rows", ["n"]), -layer.inner(Span.of(2)), Sight(), []), [[(7,)]])
        self.assertEqual(mended(self.ask("rows", ["n"]), layer.inner(Span.of(2)), Sight(), ((7,),)), [[]])
        for kind, shown, kept in (("count", [], 1), ("sum", ["n"], 7), ("rows", ["n"], [(7,)])):
            self.assertIsNone(rest_question(self.ask(kind, shown), layer, Sight(), kept))
            self.assertIsNone(kept_parting(self.ask(kind, shown), layer, Sight(), kept))

    def test_layers_without_changes_in_the_table(self):
        for layer in (Layer(self.schema), Layer(self.schema, [("b", 1, None, (3,)), ("b", 2, (4,), None)])):
            for kind, shown, keeps in (("some", [], (True, False)), ("least", ["n"], (None, 0, 5)), ("greatest", ["n"], (None, 0)),
                                       ("first", ["n"], (None, (3, (None,)))), ("count", [], (0, 4)), ("rows", ["n"], ([], [(1,)]))):
                for kept in keeps:
                    self.assertEqual(mended(self.ask(kind, shown), layer, Sight(), kept), [kept])

    def test_every_key_touched(self):
        schema = Schema([Table("a", Span.of(1, 2), [("n", Span.of(None, 0, 1))])])
        layer = Layer(schema, [("a", 1, (0,), (1,)), ("a", 2, None, (None,))])
        for kind, shown, kept, new in (("some", [], True, True), ("least", ["n"], 0, 1), ("first", ["key"], (1, (1,)), (1, (1,)))):
            question = Question(schema, kind, "a", shown)
            self.assertEqual(mended(question, layer, Sight(), kept), [new])
            self.assertIsNone(rest_question(question, layer, Sight(), kept))

    def test_brought_on_over_a_run_of_layers(self):
        changes = [(1, None, (5,)), (2, None, (3,)), (1, (5,), (4,)), (2, (3,), None), (3, None, (4,)), (1, (4,), (9,)),
                   (3, (4,), (None,)), (1, (9,), None)]
        where = [Always(), Unseen("odd"), ~Unseen("odd"), KeyIn(Span.of(1, 3))]
        sight = Sight((), [("a", "odd", (3,)), ("a", "odd", (5,)), ("a", "odd", (9,))])
        for condition, (kind, shown) in itertools.product(where, [("some", []), ("least", ["n"]), ("greatest", ["n"]), ("count", []),
                                                                  ("first", ["n", "key"]), ("sum", ["n"]), ("rows", ["n"])]):
            question, store = self.ask(kind, shown, condition), Store(self.schema)
            known = answer(question, store, sight)
            for change in changes:
                layer = self.layer(change)
                before, store = store, layer.lead(store)
                self.assertEqual(brought_on(question, layer, sight, known, before), answer_by_words(question, store, sight))
                known = brought_on(question, layer, sight, known, store)
                self.assertEqual(known, answer_by_words(question, store, sight))

    def test_finished(self):
        layer = self.layer((2, (7,), (5,)))
        for kind, shown, heard, found in (("least", ["n"], 4, 4), ("least", ["n"], None, 5), ("greatest", ["n"], 6, 6),
                                          ("first", ["n"], (1, (0,)), (1, (0,))), ("first", ["n"], None, (2, (5,)))):
            self.assertEqual(finished(self.ask(kind, shown), layer, Sight(), heard), found)
        self.assert_is(True, finished(self.ask("some", where=KeyIn(Span.of(3))), layer, Sight(), True))
        self.assert_is(False, finished(self.ask("some", where=KeyIn(Span.of(3))), layer, Sight(), False))

    def test_endless_spans(self):
        shop = shop_schema()
        least = Question(shop, "least", "item", ["left"], where=Unseen("fragile"))
        layer = Layer(shop, [("item", 3, (50, 4), (50, 9))])
        signs = [("item", "fragile", (4, 50)), ("item", "fragile", (9, 50))]
        self.assertEqual(mended(least, layer, Sight((), signs), 4), [])
        (first, _), (second, sight) = kept_parting(least, layer, Sight((), signs), 4)
        self.assertEqual((first.size, second.size, sight.holds(signs[0])), (1, 2, True))
        self.assertEqual(mended(least, layer, Sight((), signs[1:]), 2), [2])
