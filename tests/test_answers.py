import itertools

from helpers import KeptCase, all_stores, answer_by_words, mixed_world, plain_world
from keptbase.answers import answer, combine, less
from keptbase.contributions import contribution, nothing
from keptbase.conditions import KeyIn, Unseen
from keptbase.errors import NotContained, NotHeaping
from keptbase.parts import Part
from keptbase.questions import Question
from keptbase.schema import Schema, Table
from keptbase.sights import Sight
from keptbase.spans import Span
from keptbase.stores import Store

PLAIN = plain_world()
MIXED = mixed_world()
HEAPING = ("count", "sum", "rows")


def by_kind(world=PLAIN, **named):
    """One question of each kind."""
    shown = {"count": [], "sum": ["x"], "rows": ["x", "y"], "some": [], "least": ["x"], "greatest": ["x"],
             "first": ["x", "key"]}
    return [Question(world.schema, kind, "a", shown[kind], **named) for kind in shown]


class Answering(KeptCase):
    def test_answers_on_all_stores(self):
        for world, steps in ((PLAIN, (5, 7)), (MIXED, (3, 11))):
            for question in world.questions(every=3):
                answers = world.answers(question)
                for images in world.stores[::steps[0]]:
                    store = world.store(images)
                    for at in range(0, len(world.sights), steps[1]):
                        found = answer(question, store, world.sights[at])
                        self.assertEqual(found, answers[images][at])
                        self.assertIs(type(found), type(answers[images][at]))

    def test_rows_of_other_tables_have_no_effect(self):
        for question in by_kind():
            for images in PLAIN.stores[::4]:
                store = PLAIN.store(images)
                more = store.put("b", 1, (1,)).put("b", 2, (0,))
                self.assertEqual(answer(question, more, Sight()), answer(question, store, Sight()))
        other = Question(PLAIN.schema, "sum", "b", ["x"])
        self.assertEqual(answer(other, PLAIN.store(PLAIN.stores[-1]).put("b", 1, (1,)), Sight()), 1)

    def test_answers_on_parts(self):
        for question in by_kind(where=Unseen("odd")):
            for images, sight in itertools.product(PLAIN.stores[::3], PLAIN.sights[::5]):
                told = [("a", key, image) for key, image in zip(PLAIN.keys, images)]
                part = Part(PLAIN.schema, [*told, ("b", 1, None), ("b", 2, (1,))])
                self.assertEqual(answer(question, part, sight), answer(question, part.as_store(), sight))

    def test_lists_are_new(self):
        question = Question(PLAIN.schema, "rows", "a", ["x"])
        store = PLAIN.store(PLAIN.stores[-1])
        answer(question, store, Sight()).append("more")
        self.assertEqual(answer(question, store, Sight()), answer_by_words(question, store, Sight()))

    def test_order_of_rows(self):
        schema = Schema([Table("a", Span.numbers(), [("x", Span.everything()), ("y", Span.everything())])])
        rows = [(10, 2), (9, None), (-3, 5), (None, 8), (9, -1), (None, None), (9, None)]
        store = Store(schema, [("a", -key, row) for key, row in enumerate(rows)])
        ascending = [(None, None), (None, 8), (-3, 5), (9, None), (9, None), (9, -1), (10, 2)]
        self.assertEqual(answer(Question(schema, "rows", "a", ["x", "y"]), store, Sight()), ascending)
        keys = answer(Question(schema, "rows", "a", ["key"]), store, Sight())
        self.assertEqual(keys, [(-6,), (-5,), (-4,), (-3,), (-2,), (-1,), (0,)])
        self.assertEqual(answer(Question(schema, "first", "a", ["x"]), store, Sight()), (-6, (9,)))

    def test_integers_of_the_largest_size(self):
        big = 10 ** 12
        schema = Schema([Table("a", Span.numbers(), [("x", Span.everything())])])
        store = Store(schema, [("a", key, (big * (key % 3 - 1),)) for key in range(-19, 21)])
        found = [answer(Question(schema, kind, "a", ["x"]), store, Sight()) for kind in ("sum", "least", "greatest")]
        self.assertEqual(found, [big, -big, big])
        self.assertEqual(answer(Question(schema, "count", "a", where=KeyIn(Span([(0, None)]))), store, Sight()), 21)

    def test_relations_between_kinds(self):
        for condition, images in itertools.product(PLAIN.conditions(), PLAIN.stores[::6]):
            store, sight = PLAIN.store(images), PLAIN.sights[11]
            ask = {}
            for kind, shown in (("count", []), ("some", []), ("rows", ["x"]), ("sum", ["x"]), ("least", ["x"]),
                                ("greatest", ["x"]), ("first", ["y"])):
                ask[kind] = answer(Question(PLAIN.schema, kind, "a", shown, where=condition), store, sight)
            keyed = answer(Question(PLAIN.schema, "rows", "a", ["key", "y"], where=condition), store, sight)
            integers = [shown[0] for shown in ask["rows"] if shown[0] is not None]
            self.assert_is(ask["count"] != 0, ask["some"])
            self.assertEqual(ask["count"], len(ask["rows"]))
            self.assertEqual(ask["sum"], sum(integers))
            self.assertEqual(ask["least"], min(integers, default=None))
            self.assertEqual(ask["greatest"], max(integers, default=None))
            self.assertEqual(ask["first"], (keyed[0][0], keyed[0][1:]) if keyed else None)

    def test_narrowed(self):
        for question in by_kind(where=Unseen("odd")):
            for condition, images in itertools.product(PLAIN.conditions(), PLAIN.stores[::9]):
                store, sight = PLAIN.store(images), PLAIN.sights[21]
                left = [(table, key, row) for table, key, row in store if condition.counts(PLAIN.table, key, row, sight)]
                expected = answer_by_words(question, Store(PLAIN.schema, left), sight)
                self.assertEqual(answer(question.narrowed(condition), store, sight), expected)

    def test_worked_example(self):
        schema = Schema([Table("stock", Span.read("1..9"), [("left", Span.read("none, 0..99"))])])
        store = Store(schema, [("stock", 2, (5,)), ("stock", 4, (None,)), ("stock", 7, (5,))])
        question = Question(schema, "rows", "stock", ["left"])
        rows = answer(question, store, Sight())
        first = answer(Question(schema, "first", "stock", ["left"]), store, Sight())
        self.assertEqual([rows, less(question, rows, [(5,)]), first],
                         [[(None,), (5,), (5,)], [(None,), (5,)], (2, (5,))])


class Combining(KeptCase):
    def test_combine_tells_the_answer_on_both_stores(self):
        for question in PLAIN.questions(every=4):
            answers = PLAIN.answers(question)
            for first, second in itertools.product([None, *PLAIN.rows], repeat=2):
                for at in range(0, len(PLAIN.sights), 9):
                    one, other, both = [answers[images][at] for images in ((first, None), (None, second), (first, second))]
                    for found in (combine(question, one, other), combine(question, other, one)):
                        self.assertEqual(found, both)
                        self.assertIs(type(found), type(both))

    def test_associative_with_nothing_neutral(self):
        for question in by_kind():
            found = [answer_by_words(question, PLAIN.store(images), Sight()) for images in PLAIN.stores[::5]]
            for one, other, third in itertools.product(found[:7], repeat=3):
                left = combine(question, combine(question, one, other), third)
                self.assertEqual(left, combine(question, one, combine(question, other, third)))
            for one in found:
                self.assertEqual(combine(question, one, nothing(question)), one)
                self.assertEqual(combine(question, nothing(question), one), one)

    def test_contributions_combined(self):
        for question in by_kind(where=Unseen("low")):
            for images, sight in itertools.product(PLAIN.stores[::5], PLAIN.sights[::7]):
                total = nothing(question)
                for _, key, row in reversed(list(PLAIN.store(images))):
                    total = combine(question, contribution(question, key, row, sight), total)
                self.assertEqual(total, answer(question, PLAIN.store(images), sight))

    def test_each_kind(self):
        cases = [("count", 2, 3, 5), ("sum", -4, 4, 0), ("rows", [(5, None), (None, 1)], [(None, 1), (0, 0)],
                                                         [(None, 1), (None, 1), (0, 0), (5, None)]),
                 ("some", False, True, True), ("some", False, False, False), ("some", True, True, True),
                 ("least", 3, None, 3), ("least", 0, -1, -1), ("least", None, None, None), ("greatest", 0, None, 0),
                 ("greatest", -5, -2, -2), ("first", (2, (7, 1)), (-3, (9, 9)), (-3, (9, 9))),
                 ("first", None, (2, (0, 1)), (2, (0, 1))), ("first", (2, (0, 3)), (2, (None, 5)), (2, (None, 5)))]
        shown = {"count": [], "some": [], "sum": ["x"], "least": ["x"], "greatest": ["x"]}
        for kind, first, second, both in cases:
            question = Question(PLAIN.schema, kind, "a", shown.get(kind, ["x", "y"]))
            for found in (combine(question, first, second), combine(question, second, first)):
                self.assertEqual(found, both)
                self.assertIs(type(found), type(both))

    def test_lists_and_tuples(self):
        question = Question(PLAIN.schema, "rows", "a", ["x"])
        first, second = [(1,), (None,)], [(0,)]
        self.assertEqual(combine(question, tuple(first), tuple(second)), [(None,), (0,), (1,)])
        combine(question, first, []).append("more")
        self.assertEqual((first, second), ([(1,), (None,)], [(0,)]))


class Taking(KeptCase):
    def test_less_undoes_combine(self):
        for question in PLAIN.questions(every=2):
            if question.kind not in HEAPING:
                continue
            found = [answer_by_words(question, PLAIN.store(images), PLAIN.sights[13]) for images in PLAIN.stores[::4]]
            for whole, part in itertools.product(found, repeat=2):
                self.assertEqual(less(question, combine(question, whole, part), part), whole)

    def test_rows(self):
        question = Question(PLAIN.schema, "rows", "a", ["x", "y"])
        whole = [(1, 2), (None, 5), (1, 2), (0, 2)]
        self.assertEqual(less(question, whole, []), [(None, 5), (0, 2), (1, 2), (1, 2)])
        self.assertEqual(less(question, whole, [(1, 2)]), [(None, 5), (0, 2), (1, 2)])
        self.assertEqual(less(question, tuple(whole), ((1, 2), (None, 5), (1, 2))), [(0, 2)])
        self.assertEqual(less(question, whole, [(1, 2), (0, 2), (None, 5), (1, 2)]), [])
        self.assertEqual(whole, [(1, 2), (None, 5), (1, 2), (0, 2)])

    def test_not_contained(self):
        question = Question(PLAIN.schema, "rows", "a", ["x", "y"])
        for part, shown in (([(0, 5)], (0, 5)), ([(0, 2), (0, 2), (9, 9)], (0, 2)), ([(1, 2), (9, 9), (0, 2), (0, 2)], (9, 9))):
            self.assert_error(NotContained, {"shown": shown}, less, question, [(1, 2), (0, 2)], part)
            self.assert_error(NotContained, {"shown": shown}, less, question, ((1, 2), (0, 2)), tuple(part))

    def test_numbers(self):
        for kind, shown in (("count", []), ("sum", ["x"])):
            question = Question(PLAIN.schema, kind, "a", shown)
            self.assertEqual([less(question, 5, 3), less(question, 0, 0), less(question, 2, 7)], [2, 0, -5])

    def test_not_heaping(self):
        for question in by_kind():
            if question.kind not in HEAPING:
                self.assert_error(NotHeaping, {"kind": question.kind}, less, question, None, None)
                self.assert_error(NotHeaping, {"kind": question.kind}, less, question, [(1,)], [(2,)])

    def test_all_tables_of_a_tiny_schema(self):
        schema = Schema([Table("a", Span.of(0, 1), [("x", Span.of(None, 0))]), Table("b", Span.of(0), [("x", Span.of(0, 1))])])
        for store, table in itertools.product(all_stores(schema), ("a", "b")):
            for kind, shown in (("count", []), ("rows", ["key", "x"]), ("first", ["x"]), ("some", [])):
                question = Question(schema, kind, table, shown)
                self.assertEqual(answer(question, store, Sight()), answer_by_words(question, store, Sight()))
