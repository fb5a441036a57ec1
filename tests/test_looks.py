import itertools

from helpers import KeptCase, answer_by_words, mixed_world, narrow_world, none_first, plain_world, shop_schema
from keptbase.answers import combine
from keptbase.conditions import Always, CellIn, KeyIn, Unseen
from keptbase.errors import NotContained, NotHeaping
from keptbase.footprints import footprint
from keptbase.formal import FormTable, formal
from keptbase.forms import Form
from keptbase.grips import layer_area
from keptbase.layers import Layer, between
from keptbase.looks import changed_by, look, look_between
from keptbase.parts import Part
from keptbase.questions import Question
from keptbase.schema import Schema, Table
from keptbase.sights import Sight
from keptbase.spans import Span
from keptbase.stores import Store
from keptbase.witnesses import alike, parted

PLAIN, MIXED, NARROW = plain_world(), mixed_world(), narrow_world()


class Looks(KeptCase):
    def test_blank_exactly_if_no_answer_changes(self):
        for world, every, step in ((PLAIN, 19, 40), (MIXED, 17, 12), (NARROW, 2, 1)):
            layers = world.layers(step)
            for question in world.questions(every=every):
                answers = world.answers(question)
                for first, second in layers:
                    seen = look(question, world.layer(first, second))
                    self.assertIs(type(seen), FormTable)
                    same = all(answers[images] == answers[led] for images, led in world.fitted(first, second))
                    self.assert_is(not same, bool(seen))

    def test_blank_between_parts_exactly_if_laid_stores_answer_the_same(self):
        for world, every in ((MIXED, 23), (NARROW, 3)):
            places = [("a", world.keys[0])]
            for question in world.questions(every=every):
                answers = world.answers(question)
                for one, other in itertools.product([None, *world.rows], repeat=2):
                    parts = [Part(world.schema, [(*places[0], image)]) for image in (one, other)]
                    seen = look_between(question, *parts)
                    rests = [images[1:] for images in world.stores if images[0] is None]
                    same = all(answers[(one, *rest)] == answers[(other, *rest)] for rest in rests)
                    self.assert_is(not same, bool(seen))

    def test_difference_of_formal_answers(self):
        for question in MIXED.questions(every=11):
            for first, second in MIXED.layers(15):
                layer = MIXED.layer(first, second)
                seen = look(question, layer)
                self.assertTrue(seen == formal(question, layer.new) - formal(question, layer.old))
                self.assertTrue(seen == look_between(question, layer.old, layer.new))
                self.assertTrue(look(question, -layer) == -seen)
                self.assertTrue(look(question, layer.inner(Span())) == FormTable())

    def test_sums_of_layers(self):
        stores = MIXED.stores[::3]
        for question in MIXED.questions(every=11):
            for one, other, third in itertools.product(stores[::4], stores[2:8], stores[::3]):
                first, second = MIXED.layer(one, other), MIXED.layer(other, third)
                if question.heaping:
                    self.assertTrue(look(question, first + second) == look(question, first) + look(question, second))
                parts = [Part.of(MIXED.store(images), [("a", key) for key in MIXED.keys]) for images in (one, other, third)]
                halves = look_between(question, parts[0], parts[1]) + look_between(question, parts[1], parts[2])
                self.assertTrue(look_between(question, parts[0], parts[2]) == halves)

    def test_covering_looks_do_not_add_up(self):
        schema = Schema([Table("a", Span.numbers(), [("x", Span.numbers())])])
        question = Question(schema, "some", "a", where=CellIn("x", Span.of(0)))
        first = Layer(schema, [("a", 1, (0,), (5,)), ("a", 2, (5,), (0,))])
        second = Layer(schema, [("a", 2, (0,), (5,)), ("a", 3, (0,), (7,)), ("a", 4, (7,), (0,))])
        third = Layer(schema, [("a", 4, (0,), (7,)), ("a", 3, (7,), (0,))])
        self.assertEqual([bool(look(question, layer)) for layer in (first, second + third, first + second, third)],
                         [False, True, False, False])
        self.assertEqual((first + second + third).places(), [("a", 1)])
        self.assertTrue(look(question, first + second + third))

    def test_empty_layers_and_other_tables(self):
        for question in PLAIN.questions(every=5):
            for layer in (Layer(PLAIN.schema), Layer(PLAIN.schema, [("b", 1, (0,), (1,)), ("b", 2, None, (0,))])):
                seen = look(question, layer)
                self.assertEqual((type(seen), seen.entries), (FormTable, ()))

    def test_footprint_and_looks(self):
        for world, every, step in ((PLAIN, 13, 30), (MIXED, 11, 9), (NARROW, 1, 1)):
            for question in world.questions(every=every):
                area = footprint(question)
                for first, second in world.layers(step):
                    layer = world.layer(first, second)
                    if not layer_area(layer).meets(area):
                        self.assertFalse(look(question, layer))

    def test_a_cell_is_in_the_footprint_exactly_if_some_look_of_it_is_not_blank(self):
        for world, every in ((PLAIN, 7), (MIXED, 5), (NARROW, 1)):
            for question in world.questions(every=every):
                cells = {}
                for key, one, other in itertools.product(world.keys, [None, *world.rows], [None, *world.rows]):
                    if one == other:
                        continue
                    layer = Layer(world.schema, [("a", key, one, other)])
                    area = layer_area(layer)
                    if area.size == 1:
                        cells[area.one()] = cells.get(area.one(), False) or bool(look(question, layer))
                for cell, seen in cells.items():
                    self.assert_is(seen, cell in footprint(question))

    def test_narrowed_by_keys(self):
        for question in PLAIN.questions(every=9):
            for (first, second), span in itertools.product(PLAIN.layers(50), (Span.of(-1), Span([(0, None)]), Span())):
                layer = PLAIN.layer(first, second)
                narrowed = look(question.narrowed(KeyIn(span)), layer)
                self.assertTrue(narrowed == look(question, layer.inner(span)))

    def test_without_unseen_tests(self):
        conditions = [Always(), KeyIn(Span.of(1)), CellIn("x", Span.of(None)), ~CellIn("y", Span.of(2))]
        for question in PLAIN.questions(conditions=conditions):
            for first, second in PLAIN.layers(9):
                layer = PLAIN.layer(first, second)
                old, new = [answer_by_words(question, part.as_store(), Sight()) for part in (layer.old, layer.new)]
                self.assert_is(old != new, bool(look(question, layer)))

    def test_alike_questions_have_equal_looks(self):
        conditions = PLAIN.conditions()
        for (kind, shown), (one, other) in itertools.product((("some", []), ("sum", ["x"]), ("first", ["y"]), ("least", ["x"])),
                                                             itertools.combinations(conditions[:18], 2)):
            first, second = [Question(PLAIN.schema, kind, "a", shown, where=where) for where in (one, other)]
            if alike(first, second):
                for images in PLAIN.layers(200):
                    layer = PLAIN.layer(*images)
                    self.assertTrue(look(first, layer) == look(second, layer))
                    self.assertTrue(formal(first, layer.new) == formal(second, layer.new))
            else:
                put = between(Store(PLAIN.schema), parted(first, second)[0])
                self.assertFalse(look(first, put) == look(second, put))

    def test_worked_example(self):
        schema = Schema([Table("a", Span.read("1.."), [("n", Span.numbers())], [("odd", ["n"])])])
        question = Question(schema, "sum", "a", ["n"], where=Unseen("odd"))
        swap = Layer(schema, [("a", 1, (7,), (8,)), ("a", 2, (8,), (7,))])
        found = [bool(look(question, swap)), look(question, swap.inner(Span.of(1))).form_at(()).terms]
        self.assertEqual(found, [False, (((("a", "odd", (7,)),), -7), ((("a", "odd", (8,)),), 8))])


class Changing(KeptCase):
    def test_all_stores_that_a_layer_fits(self):
        for world, every, step in ((PLAIN, 5, 60), (MIXED, 4, 20), (NARROW, 1, 1)):
            for question in world.questions(every=every):
                if not question.heaping:
                    continue
                answers = world.answers(question)
                for first, second in world.layers(step):
                    seen = look(question, world.layer(first, second))
                    for images, led in list(world.fitted(first, second))[::2]:
                        for at in range(0, len(world.sights), 3):
                            found = changed_by(question, answers[images][at], seen, world.sights[at])
                            self.assertEqual(found, answers[led][at])
                            self.assertIs(type(found), type(answers[led][at]))

    def test_equal_looks_change_answers_equally(self):
        question = Question(NARROW.schema, "sum", "a", ["y"], where=Unseen("odd"))
        answers = NARROW.answers(question)
        grown = {}
        for (one,), (other,) in itertools.product(NARROW.stores, repeat=2):
            by = tuple(new - old for old, new in zip(answers[(one,)], answers[(other,)]))
            if one != other:
                grown[one, other] = (by, look(question, Layer(NARROW.schema, [("a", 3, one, other)])))
        for (by, seen), (other, second) in itertools.product(grown.values(), repeat=2):
            self.assert_is(by == other, seen == second)

    def test_rows(self):
        question = Question(PLAIN.schema, "rows", "a", ["x", "y"])
        sign = ("a", "odd", (0,))
        seen = FormTable([((0, 2), Form.whole(-2)), ((1, 5), 2 * Form.of(sign)), ((None, 5), -Form.of(sign))])
        known = [(1, 5), (0, 2), (None, 5), (0, 2)]
        true = Sight((), [sign])
        for given in (known, tuple(known)):
            self.assertEqual(changed_by(question, given, seen, Sight()), [(None, 5), (1, 5)])
            self.assertEqual(changed_by(question, given, seen, true), [(1, 5), (1, 5), (1, 5)])
        self.assertEqual(known, [(1, 5), (0, 2), (None, 5), (0, 2)])
        self.assertEqual(changed_by(question, known, FormTable(), true), sorted(known, key=none_first))
        changed_by(question, known, FormTable(), true).append("more")
        self.assertEqual(len(known), 4)

    def test_not_contained(self):
        question = Question(PLAIN.schema, "rows", "a", ["x"])
        seen = FormTable([((None,), Form.whole(-1)), ((0,), Form.whole(-2)), ((1,), Form.whole(-1))])
        for known, shown in (([], (None,)), ([(None,), (0,)], (0,)), ([(0,), (1,), (0,), (None,)], None), ([(0,), (0,)], (None,)),
                             ([(0,), (None,), (0,)], (1,))):
            if shown is None:
                self.assertEqual(changed_by(question, known, seen, Sight()), [])
            else:
                self.assert_error(NotContained, {"shown": shown}, changed_by, question, known, seen, Sight())

    def test_not_heaping(self):
        for kind, shown in (("some", []), ("least", ["x"]), ("greatest", ["x"]), ("first", ["x"])):
            question = Question(PLAIN.schema, kind, "a", shown)
            seen = look(question, Layer(PLAIN.schema, [("a", 1, None, (0, 2))]))
            self.assert_error(NotHeaping, {"kind": kind}, changed_by, question, None, seen, Sight())

    def test_numbers(self):
        shop = shop_schema()
        question = Question(shop, "sum", "note", ["cents"], where=KeyIn(Span([(0, None)])))
        layer = Layer(shop, [("note", 3, (5,), (None,)), ("note", 9, None, (10 ** 12,)), ("note", -1, (1,), (2,))])
        self.assertEqual(changed_by(question, -4, look(question, layer), Sight()), 10 ** 12 - 9)
        self.assertEqual(combine(question, -4, 10 ** 12 - 5), 10 ** 12 - 9)
