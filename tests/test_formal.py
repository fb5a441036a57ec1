import itertools

from helpers import KeptCase, all_stores, mixed_world, narrow_world, none_first, plain_world, tiny_schema, true_by_words
from keptbase.conditions import Either, Unseen
from keptbase.contributions import nothing
from keptbase.formal import FormTable, condition_form, formal, read_answer
from keptbase.forms import Form
from keptbase.parts import Part
from keptbase.questions import Question
from keptbase.schema import Schema, Table
from keptbase.sights import Sight
from keptbase.spans import Span
from keptbase.stores import Store

WORLDS = [plain_world(), mixed_world(), narrow_world()]
X, Y = Form.of(("a", "t", (1,))), Form.of(("a", "t", (2,)))


class Conditions(KeptCase):
    def test_value_of_the_form(self):
        for world in WORLDS:
            for condition, key, row in itertools.product(world.conditions(), world.keys, world.rows):
                form = condition_form(condition, world.table, key, row)
                self.assertIs(type(form), Form)
                for sight in world.sights:
                    truth = true_by_words(condition, world.table, key, row, sight)
                    self.assertEqual(form.under(sight), 1 if truth else 0)

    def test_one_leaf(self):
        table = WORLDS[1].table
        sign = ("a", "both", (2, None))
        self.assertEqual(condition_form(Unseen("both"), table, 1, (None, 2)), Form.of(sign))
        self.assertEqual(condition_form(~Unseen("both"), table, 1, (None, 2)).terms, (((), 1), ((sign,), -1)))
        self.assertEqual(condition_form(Either(), table, 1, (None, 2)), Form())


class Tables(KeptCase):
    def test_entries(self):
        cases = [([], []), ([((), X), ((), -X)], []), ([((), X), ((), Y), ((), X)], [((), 2 * X + Y)]),
                 ([(3, X), (-3, Y), (0, Form.whole(1)), (-3, X)], [(-3, X + Y), (0, Form.whole(1)), (3, X)]),
                 ([((5, None), X), ((None, 7), Y), ((5, 1), Form()), ((5, -2), X), ((None, None), X)],
                  [((None, None), X), ((None, 7), Y), ((5, None), X), ((5, -2), X)]),
                 ([((2, (0,)), X), ((-4, (9,)), Y), ((2, (None,)), Y)], [((-4, (9,)), Y), ((2, (None,)), Y), ((2, (0,)), X)]),
                 ([(True, X), (True, -Y)], [(True, X - Y)])]
        for given, entries in cases:
            for listed in (given, tuple(given), given[::-1]):
                found = FormTable(listed)
                self.assertIs(type(found.entries), tuple)
                self.assertEqual(found.entries, tuple(entries))
                self.assertEqual(list(found), entries)
                self.assert_is(entries != [], bool(found))
                for mark, form in entries:
                    self.assertEqual(found.form_at(mark), form)
        self.assertEqual(FormTable().entries, ())

    def test_form_at(self):
        found = FormTable([((5, None), X)])
        for mark in ((5, 1), (None, 5), (5,), ()):
            self.assertEqual((type(found.form_at(mark)), found.form_at(mark).terms), (Form, ()))

    def test_sums_differences_negatives(self):
        forms = [Form(), X, Y, -X, X * Y, Form.whole(2)]
        for one, other, third, fourth in itertools.product(forms, repeat=4):
            first, second = FormTable([(1, one), (2, other)]), FormTable([(2, third), (3, fourth)])
            total, rest, negative = first + second, first - second, -first
            for mark in (1, 2, 3):
                self.assertEqual(total.form_at(mark), first.form_at(mark) + second.form_at(mark))
                self.assertEqual(rest.form_at(mark), first.form_at(mark) - second.form_at(mark))
                self.assertEqual(negative.form_at(mark), -first.form_at(mark))
            for found in (total, rest, negative):
                self.assertIs(type(found), FormTable)
                self.assertTrue(all(form for _, form in found))
            self.assert_is(first.entries == second.entries, first == second)

    def test_equality(self):
        self.assertTrue(FormTable([(1, X), (2, Y)]) == FormTable([(2, Y), (1, X)]))
        for other in (FormTable([(1, X)]), FormTable([(1, Y), (2, Y)]), FormTable(), (), None, X, 0):
            self.assertFalse(FormTable([(1, X), (2, Y)]) == other)
        self.assertFalse(FormTable() == ())

    def test_lists_are_copied(self):
        given = [(1, X)]
        found = FormTable(given)
        given.append((2, Y))
        self.assertEqual(found.entries, ((1, X),))


class FormalAnswers(KeptCase):
    def test_read_under_all_sights(self):
        for world, every, step in zip(WORLDS, (4, 3, 1), (5, 3, 1)):
            for question in world.questions(every=every):
                answers = world.answers(question)
                for images in world.stores[::step]:
                    forms = formal(question, world.store(images))
                    self.check_marks(question, forms)
                    for at, sight in enumerate(world.sights):
                        found = read_answer(question, forms, sight)
                        self.assertEqual(found, answers[images][at])
                        self.assertIs(type(found), type(answers[images][at]))

    def check_marks(self, question, forms):
        self.assertIs(type(forms), FormTable)
        marks = [mark for mark, _ in forms]
        if question.kind in ("count", "sum"):
            self.assertTrue(set(marks) <= {()})
        elif question.kind == "some":
            self.assertTrue(all(mark is True for mark in marks))
        elif question.kind == "first":
            self.assertEqual(marks, sorted(marks, key=lambda mark: (mark[0], none_first(mark[1]))))
        elif question.kind == "rows":
            self.assertEqual(marks, sorted(marks, key=none_first))
        else:
            self.assertEqual(marks, sorted(marks))
        if not question.heaping:
            for _, form in forms:
                self.assertTrue(form * form == form)

    def test_equal_exactly_if_equal_under_all_sights(self):
        for world, step in zip(WORLDS, (5, 3, 1)):
            for question in world.questions(every=7):
                answers = world.answers(question)
                listed = [(formal(question, world.store(images)), answers[images]) for images in world.stores[::step]]
                for (one, first), (other, second) in itertools.product(listed, repeat=2):
                    self.assert_is(first == second, one == other)

    def test_heaping_forms_by_their_words(self):
        world = WORLDS[0]
        for condition, images in itertools.product(world.conditions()[::3], world.stores[::4]):
            rows = [(key, row, condition_form(condition, world.table, key, row)) for key, row in zip(world.keys, images)
                    if row is not None]
            count, total, shown = Form(), Form(), {}
            for key, row, form in rows:
                count, total = count + form, total + (row[0] or 0) * form
                shown[row[0], key] = shown.get((row[0], key), Form()) + form
            store = world.store(images)
            for kind, names, entries in (("count", [], [((), count)]), ("sum", ["x"], [((), total)]),
                                         ("rows", ["x", "key"], list(shown.items()))):
                found = formal(Question(world.schema, kind, "a", names, where=condition), store)
                self.assertTrue(found == FormTable(entries))

    def test_stores_and_parts(self):
        tiny = tiny_schema()
        for store in all_stores(tiny)[::3]:
            part = Part.of(store, [("a", -1), ("a", 0), ("b", 5)])
            for kind, shown in (("sum", ["x"]), ("rows", ["key", "y"]), ("first", ["x"]), ("least", ["y"])):
                question = Question(tiny, kind, "a", shown, where=Unseen("odd"))
                self.assertTrue(formal(question, part) == formal(question, store))
                self.assertTrue(formal(question, part.as_store()) == formal(question, store))

    def test_no_rows_and_other_tables(self):
        world = WORLDS[0]
        for question in world.questions(every=3):
            for store in (Store(world.schema), Store(world.schema, [("b", 1, (1,))])):
                forms = formal(question, store)
                self.assertEqual(forms.entries, ())
                self.assertEqual(read_answer(question, forms, Sight()), nothing(question))

    def test_covering_worked_by_hand(self):
        schema = Schema([Table("a", Span.numbers(), [("x", Span.everything())], [("t", ["x"])])])
        store = Store(schema, [("a", 1, (5,)), ("a", 2, (None,)), ("a", 3, (2,)), ("a", -4, (5,))])
        two, five, none = [Form.of(("a", "t", (content,))) for content in (2, 5, None)]
        cases = [("some", [], [(True, 1 - (1 - two) * (1 - five) * (1 - none))]),
                 ("least", ["x"], [(2, two), (5, five * (1 - two))]),
                 ("greatest", ["x"], [(2, two * (1 - five)), (5, five)]),
                 ("first", ["x"], [((-4, (5,)), five), ((2, (None,)), none * (1 - five)),
                                   ((3, (2,)), two * (1 - five) * (1 - none))])]
        for kind, shown, entries in cases:
            found = formal(Question(schema, kind, "a", shown, where=Unseen("t")), store)
            self.assertEqual(found.entries, tuple(entries))

    def test_forty_rows_with_eight_signs(self):
        schema = Schema([Table("a", Span.numbers(), [("x", Span.everything()), ("y", Span.everything())], [("t", ["y"])])])
        store = Store(schema, [("a", key, (key * 7 % 40, key % 8)) for key in range(40)])
        for kind, shown in (("least", ["x"]), ("first", ["x"]), ("some", []), ("count", []), ("rows", ["y"])):
            question = Question(schema, kind, "a", shown, where=Unseen("t"))
            forms = formal(question, store)
            signs = [("a", "t", (number,)) for number in range(8)]
            self.assertEqual(read_answer(question, forms, Sight()), nothing(question))
            expected = {"least": 2, "first": (3, (21,)), "some": True, "count": 10, "rows": [(3,)] * 5 + [(6,)] * 5}[kind]
            self.assertEqual(read_answer(question, forms, Sight((), [signs[3], signs[6]])), expected)
