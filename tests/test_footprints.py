import itertools

from helpers import NO_CONTENTS, KeptCase, mixed_world, narrow_world, plain_world, shop_schema
from keptbase.areas import Area
from keptbase.conditions import Always, CellIn, Either, KeyIn, Unseen
from keptbase.errors import NoSuchColumn
from keptbase.footprints import contributing_keys, footprint, turning_keys
from keptbase.questions import Question
from keptbase.schema import Schema, Table
from keptbase.spans import Span

WORLDS = [plain_world(), mixed_world(), narrow_world()]
NOTHING = {"count": 0, "sum": 0, "rows": [], "some": False}


class Footprints(KeptCase):
    def test_all_pairs_of_stores_that_differ_in_one_cell(self):
        for world, every in zip(WORLDS, (5, 5, 2)):
            steps = world.steps()
            for question in world.questions(every=every):
                answers = world.answers(question)
                cells = {("a", key, field) for first, second, key, field in steps if answers[first] != answers[second]}
                self.assertEqual(footprint(question), Area.of(world.schema, list(cells)))

    def contributes(self, world, question, key, row):
        """For each sight whether a row contributes, by point 36."""
        counts = world.counts(question, key, row)
        if question.kind not in ("sum", "least", "greatest"):
            return counts
        content = row[world.table.columns.index(question.shown[0])]
        return [truth and content is not None and (question.kind != "sum" or content != 0) for truth in counts]

    def test_contributing_and_turning_keys(self):
        for world in WORLDS:
            for question in world.questions(every=4):
                does = {(key, row): self.contributes(world, question, key, row) for key in world.keys for row in world.rows}
                keys = [key for key, row in does if any(does[key, row])]
                self.assertEqual(contributing_keys(question), Span.of(*keys))
                for at, column in enumerate(world.table.columns):
                    turning = [key for key in world.keys for one in world.rows for other in world.rows
                               if all((one[i] == other[i]) == (i != at) for i in range(2)) and does[key, one] != does[key, other]]
                    self.assertEqual(turning_keys(question, column), Span.of(*turning))

    def test_turning_keys_of_no_column(self):
        question = Question(WORLDS[0].schema, "count", "a")
        for column in ["z", "key", "there", "odd", "", None, 0, *NO_CONTENTS]:
            self.assert_error(NoSuchColumn, {"column": column}, turning_keys, question, column)

    def test_difference_outside_leaves_answers_equal(self):
        world = WORLDS[1]
        for question in world.questions(every=9):
            answers, area = world.answers(question), footprint(question)
            for first, second in itertools.product(world.stores[::2], repeat=2):
                cells = [("a", key, "there") for key, one, other in zip(world.keys, first, second)
                         if (one is None) != (other is None)]
                cells += [("a", key, column) for key, one, other in zip(world.keys, first, second)
                          if one is not None and other is not None
                          for at, column in enumerate(world.table.columns) if one[at] != other[at]]
                if not any(cell in area for cell in cells):
                    self.assertEqual(answers[first], answers[second])

    def test_empty_exactly_if_the_answer_is_always_nothing(self):
        for world in WORLDS:
            for question in world.questions(every=3):
                area = footprint(question)
                none = NOTHING.get(question.kind)
                always = all(found == none for answers in world.answers(question).values() for found in answers)
                self.assert_is(always, not area)
                for column in world.table.columns:
                    self.assertTrue(area.span_of("a", column).within(area.span_of("a", "there")))

    def test_narrowed_by_keys(self):
        for world in WORLDS:
            for question, span in itertools.product(world.questions(every=6), (Span(), Span([(0, None)]), Span.numbers())):
                narrowed = footprint(question.narrowed(KeyIn(span)))
                entries = [(table, field, keys & span) for table, field, keys in footprint(question)]
                self.assertEqual(narrowed, Area(world.schema, entries))

    def test_footprints_of_kinds_with_one_condition(self):
        for world in WORLDS:
            for condition in world.conditions():
                area = {kind: footprint(Question(world.schema, kind, "a", shown, where=condition))
                        for kind, shown in (("some", []), ("count", []), ("rows", ["x", "key", "y"]), ("first", ["x", "key", "y"]),
                                            ("least", ["x"]), ("greatest", ["x"]), ("sum", ["x"]))}
                alone = Area(world.schema)
                for name in ("x", "key", "y"):
                    alone = alone | footprint(Question(world.schema, "rows", "a", [name], where=condition))
                self.assertEqual(area["some"], area["count"])
                self.assertTrue(area["count"].within(area["rows"]))
                self.assertEqual(area["rows"], area["first"])
                self.assertEqual(area["rows"], alone)
                self.assertEqual(area["least"], area["greatest"])
                self.assertTrue(area["sum"].within(area["least"]))

    def test_endless_keys_and_domains(self):
        shop = shop_schema()
        where = (KeyIn(Span([(None, -5)])) & CellIn("cents", Span([(3, None)]))) | KeyIn(Span.of(8))
        for kind, shown, there, cents in (("count", [], "..-5, 8", "..-5"), ("sum", ["cents"], "..-5, 8", "..-5, 8")):
            area = footprint(Question(shop, kind, "note", shown, where=where))
            found = (str(area.span_of("note", "there")), str(area.span_of("note", "cents")))
            self.assertEqual(found, (there, cents))
            self.assertFalse(area.touched("item"))
        whole = footprint(Question(shop, "rows", "note", ["cents"]))
        self.assertEqual(whole, Area.whole(shop) & Area(shop, [("note", field, Span.numbers()) for field in ("there", "cents")]))

    def test_one_content_alone(self):
        schema = Schema([Table("a", Span([(1, None)]), [("x", Span.of(None, 0)), ("y", Span.of(1, 2))], [("t", ["y"])])])
        self.assertFalse(footprint(Question(schema, "sum", "a", ["x"])))
        least = footprint(Question(schema, "least", "a", ["x"], where=Either(Unseen("t"), ~Unseen("t"))))
        self.assertEqual([(field, str(span)) for _, field, span in least], [("there", "1.."), ("x", "1..")])
        count = footprint(Question(schema, "count", "a", where=Unseen("t") & KeyIn(Span.of(0, 3, 4))))
        self.assertEqual([(field, str(span)) for _, field, span in count], [("there", "3..4"), ("y", "3..4")])
        always = footprint(Question(schema, "some", "a", where=Always()))
        self.assertEqual([(field, str(span)) for _, field, span in always], [("there", "1..")])

    def test_worked_example(self):
        columns = [("place", Span.read("0..3")), ("left", Span.read("none, 0..99"))]
        schema = Schema([Table("stock", Span.read("1..9"), columns, [("fragile", ["place"])])])
        where = KeyIn(Span.read("1..5")) | Unseen("fragile")
        area = footprint(Question(schema, "sum", "stock", ["left"], where=where))
        found = [str(area.span_of("stock", field)) for field in ("there", "place", "left")]
        self.assertEqual(found, ["1..9", "6..9", "1..9"])
