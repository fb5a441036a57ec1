import itertools

from helpers import KeptCase, mixed_world, plain_world, shop_schema
from keptbase.conditions import Always, Unseen
from keptbase.layers import Layer
from keptbase.questions import Question
from keptbase.sights import Sight
from keptbase.spans import Span
from keptbase.told import told_signs, untouched_for


class Told(KeptCase):
    def test_told_signs(self):
        for world, step in ((plain_world(), 150), (mixed_world(), 40)):
            for question, (first, second) in itertools.product(world.questions(every=7), world.layers(step)):
                layer = world.layer(first, second)
                for sight in world.sights[::5]:
                    found = told_signs(question, layer, sight)
                    self.assertIs(type(found), dict)
                    self.assertEqual(found, world.told(question, layer, sight))
                    self.assertTrue(all(truth is True or truth is False for truth in found.values()))

    def test_by_hand(self):
        shop = shop_schema()
        question = Question(shop, "count", "item", where=Unseen("fragile") & Unseen("fragile"))
        layer = Layer(shop, [("item", 2, (5, None), (6, 1)), ("item", 4, None, (5, None)), ("note", 1, (7,), None)])
        signs = [("item", "fragile", (None, 5)), ("item", "fragile", (1, 6))]
        self.assertEqual(told_signs(question, layer, Sight((), [signs[1]])), {signs[0]: False, signs[1]: True})
        self.assertEqual(told_signs(Question(shop, "count", "item", where=Always()), layer, Sight()), {})
        self.assertEqual(told_signs(Question(shop, "count", "note"), layer, Sight()), {})
        for empty in (Layer(shop), layer.inner(Span.numbers(), "note")):
            self.assertEqual(told_signs(question, empty, Sight()), {})


class Untouched(KeptCase):
    def test_untouched_keys(self):
        shop = shop_schema()
        layer = Layer(shop, [("item", 2, (5, None), (6, 1)), ("item", 4, None, (5, None)), ("note", -1, (7,), None)])
        cases = [("item", layer, "1, 3, 5.."), ("note", layer, "..-2, 0.."), ("item", Layer(shop), "1.."),
                 ("note", layer.inner(Span.numbers(), "item"), "..")]
        for table, changed, keys in cases:
            self.assertEqual(str(untouched_for(Question(shop, "count", table), changed)), keys)

    def test_every_key_touched(self):
        world = plain_world()
        layer = world.layer((None, None), ((0, 2), (1, 5)))
        self.assertEqual(untouched_for(Question(world.schema, "count", "a"), layer), Span())
        self.assertEqual(untouched_for(Question(world.schema, "count", "b"), layer), Span.of(1, 2))
