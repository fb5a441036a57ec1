import itertools

from helpers import KeptCase, answer_by_words, mixed_world, narrow_world, plain_world
from keptbase.formal import FormTable, formal, read_answer
from keptbase.forms import Form
from keptbase.layers import Layer, between
from keptbase.lookparting import disturbance, parting_sight
from keptbase.looks import look
from keptbase.questions import Question
from keptbase.sights import Sight
from keptbase.stores import Store

PLAIN, MIXED, NARROW = plain_world(), mixed_world(), narrow_world()


class Parting(KeptCase):
    def test_all_pairs_of_stores(self):
        for world, every, step in ((PLAIN, 11, 5), (MIXED, 7, 3), (NARROW, 1, 1)):
            for question in world.questions(every=every):
                answers = world.answers(question)
                for first, second in itertools.product(world.stores[::step], repeat=2):
                    one, other = [formal(question, world.store(images)) for images in (first, second)]
                    found = parting_sight(one, other)
                    if answers[first] == answers[second]:
                        self.assertIsNone(found)
                        continue
                    self.assertIs(type(found), tuple)
                    mark, sight = found
                    self.assertNotEqual(*[answer_by_words(question, world.store(images), sight) for images in (first, second)])
                    marks = [at for at, _ in one - other]
                    self.assertEqual(mark, marks[0])
                    product = (one - other).form_at(mark).terms[0][0]
                    self.assertEqual([sign for sign in world.signs if sight.holds(sign)],
                                     [sign for sign in world.signs if sign in product])

    def test_by_hand(self):
        x, y = [Form.of(("a", "odd", (content,))) for content in (0, 1)]
        question = Question(PLAIN.schema, "rows", "a", ["x"])
        first = FormTable([((None,), x), ((0,), x * y + y), ((1,), x)])
        second = FormTable([((None,), x), ((0,), y + 3 * x), ((2,), x)])
        mark, sight = parting_sight(first, second)
        self.assertEqual((mark, sight.holds(("a", "odd", (0,))), sight.holds(("a", "odd", (1,)))), ((0,), True, False))
        self.assertNotEqual(read_answer(question, first, sight), read_answer(question, second, sight))
        self.assertIsNone(parting_sight(first, FormTable(list(first))))
        self.assertIsNone(parting_sight(FormTable(), FormTable()))


class Disturbing(KeptCase):
    def test_all_layers(self):
        for world, every, step in ((PLAIN, 11, 6), (MIXED, 7, 4), (NARROW, 1, 1)):
            for question in world.questions(every=every):
                for first, second in itertools.product(world.stores[::step], world.stores[1::step]):
                    layer = between(world.store(first), world.store(second))
                    self.check_disturbance(question, layer)

    def check_disturbance(self, question, layer):
        found = disturbance(question, layer)
        if not look(question, layer):
            self.assertIsNone(found)
            return
        self.assertIs(type(found), tuple)
        store, sight = found
        self.assertEqual(store, layer.old.as_store())
        self.assertNotEqual(answer_by_words(question, store, sight), answer_by_words(question, layer.lead(store), sight))

    def test_no_disturbance(self):
        for question in PLAIN.questions(every=5):
            self.assertIsNone(disturbance(question, Layer(PLAIN.schema)))
            self.assertIsNone(disturbance(question, Layer(PLAIN.schema, [("b", 1, None, (1,))])))
        count = Question(PLAIN.schema, "count", "a")
        store, sight = disturbance(count, Layer(PLAIN.schema, [("a", 1, None, (0, 2)), ("b", 1, (1,), None)]))
        self.assertEqual((store, type(sight)), (Store(PLAIN.schema, [("b", 1, (1,))]), Sight))
