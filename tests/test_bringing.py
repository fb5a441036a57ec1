import collections
import itertools

from helpers import KeptCase, answer_by_words, mixed_world, plain_world, wide_world
from keptbase.bringing import brought
from keptbase.footprints import footprint
from keptbase.grips import layer_area
from keptbase.layers import Layer
from keptbase.looks import look
from keptbase.mending import mended
from keptbase.questions import Question
from keptbase.schema import Schema, Table
from keptbase.sights import Sight
from keptbase.spans import Span
from keptbase.stores import Store

ITEM = Schema([Table("item", Span([(1, None)]), [("price", Span([(0, 99)])), ("left", Span([(0, 9)]))])])


class Bringing(KeptCase):
    def test_first_way_that_serves(self):
        seen = collections.Counter()
        for world, step in ((plain_world(), 24), (mixed_world(), 12), (wide_world(), 50)):
            for question, (first, second) in itertools.product(world.questions(every=19), world.layers(step)[::9]):
                layer = world.layer(first, second)
                for images, led in list(world.fitted(first, second))[::7]:
                    for sight in world.sights[::9]:
                        known = answer_by_words(question, world.store(images), sight)
                        found = brought(question, layer, world.store(led), sight, known)
                        expected = answer_by_words(question, world.store(led), sight)
                        self.assertEqual((type(found), type(found[1])), (tuple, type(expected)))
                        self.assertEqual(found, (self.way(question, layer, sight, known), expected))
                        seen[found[0]] += 1
        self.assertGreater(min(seen[way] for way in ("missed", "blank", "mended", "read")), 20)

    def way(self, question, layer, sight, known):
        if not layer_area(layer).meets(footprint(question)):
            return "missed"
        if not look(question, layer):
            return "blank"
        return "mended" if mended(question, layer, sight, known) else "read"

    def test_each_way(self):
        least = Question(ITEM, "least", "item", ["price"])
        store = Store(ITEM, [("item", 1, (5, 3)), ("item", 2, (7, 3)), ("item", 3, (7, 3))])
        for changes, told in (([(1, (5, 3), (5, 4))], ("missed", 5)), ([(1, (5, 3), (5, 4)), (4, None, (6, 0)), (2, (7, 3), (5, 3))], ("blank", 5)),
                              ([(1, (5, 3), (4, 3))], ("mended", 4)), ([(1, (5, 3), (8, 3))], ("read", 7)), ([(1, (5, 3), None)], ("read", 7)),
                              ([(1, (5, 3), (7, 3)), (2, (7, 3), (5, 3))], ("blank", 5)), ([], ("missed", 5))):
            layer = Layer(ITEM, [("item", *change) for change in changes])
            self.assertEqual(brought(least, layer, layer.lead(store), Sight(), 5), told)

    def test_lists_are_new(self):
        rows = Question(ITEM, "rows", "item", ["price"])
        known = [(5,), (7,)]
        for changes in ([], [("item", 1, (5, 3), (5, 4))], [("item", 1, (5, 3), (7, 3)), ("item", 2, (7, 3), (5, 3))], [("item", 3, None, (6, 6))]):
            layer = Layer(ITEM, changes)
            found = brought(rows, layer, layer.lead(Store(ITEM, [("item", 1, (5, 3)), ("item", 2, (7, 3))])), Sight(), known)
            self.assertIs(type(found[1]), list)
            found[1].append("more")
            self.assertEqual(known, [(5,), (7,)])
