import itertools

from helpers import KeptCase, mixed_world, plain_world, shop_schema, true_by_words
from keptbase.cases import Case, cases
from keptbase.conditions import Both, CellIn, KeyIn, Not, Unseen
from keptbase.schema import Table
from keptbase.sights import Sight, sign_of
from keptbase.spans import Span

WORLDS = [plain_world(), mixed_world()]
OTHERS = {("b", "odd", (0,)): True, ("a", "none", (0,)): True, ("b", "both", (2, 0)): False, ("c", "low", (5,)): True}


def told_sets(world):
    """Told signs of many forms."""
    signs = world.signs
    return [None, {}, {signs[0]: True}, {signs[-1]: False}, {sign: at % 2 == 0 for at, sign in enumerate(signs)},
            {sign: True for sign in signs}, {sign: False for sign in signs[1:]}, OTHERS, {**OTHERS, signs[1]: False},
            {("a", "odd", (88,)): True, ("a", "low", (None,)): False, signs[0]: False}]


class Cases(KeptCase):
    def check_cases(self, world, condition, told):
        table, known = world.table, {} if told is None else told
        found = cases(table, condition, told)
        tests = {leaf.test for leaf in condition.leaves() if isinstance(leaf, Unseen)}
        for case in found:
            self.assertIs(type(case), Case)
            self.assertTrue(case.span and case.span.within(table.key_span))
            self.assertIs(type(case.spans), tuple)
            self.assertEqual(len(case.spans), len(table.columns))
            for column, span in zip(table.columns, case.spans):
                self.assertTrue(span and span.within(table.domain_of(column)))
            self.assertIs(type(case.truths), dict)
            self.assertEqual(set(case.truths), tests)
            self.assertTrue(set(case.truths.values()) <= {True, False})
            self.assertIn(case.passed, (True, False))
        agreeing = [sight for sight in world.sights if sight.agrees({sign: known[sign] for sign in world.signs if sign in known})]
        for key, row in itertools.product(world.keys, world.rows):
            lying = [case for case in found if key in case.span and all(c in span for c, span in zip(row, case.spans))]
            met = []
            for sight in agreeing:
                truths = {test: sight.holds(sign_of(table, test, row)) for test in tests}
                own = [case for case in lying if case.truths == truths]
                self.assertEqual(len(own), 1)
                self.assert_is(true_by_words(condition, table, key, row, sight), own[0].passed)
                met.append(id(own[0]))
            self.assertEqual(set(met), {id(case) for case in lying})

    def test_each_key_row_and_sight_lies_in_one_case(self):
        for world in WORLDS:
            for condition, told in itertools.product(world.conditions(), told_sets(world)):
                self.check_cases(world, condition, told)

    def test_told_signs_with_every_truth(self):
        world = WORLDS[1]
        both, low = [[sign for sign in world.signs if sign[1] == test] for test in ("both", "low")]
        for truths in itertools.product((True, False, None), repeat=4):
            told = {sign: truth for sign, truth in zip(both, truths) if truth is not None}
            for condition in (Unseen("both"), Unseen("both") & ~Unseen("low") | CellIn("x", Span.of(0))):
                self.check_cases(world, condition, told)
                self.check_cases(world, condition, {**told, low[0]: True})

    def test_told_signs_are_not_changed(self):
        told = {("a", "odd", (0,)): True}
        cases(WORLDS[0].table, Unseen("odd"), told)
        self.assertEqual(told, {("a", "odd", (0,)): True})

    def test_endless_spans(self):
        table = shop_schema().table_of("item")
        condition = Both(KeyIn(Span([(5, None)])), Not(CellIn("left", Span([(None, 3)], has_none=True))), Unseen("fragile"))
        told = {("item", "fragile", (4, 7)): False, ("item", "fragile", (4, 8)): True, ("item", "fragile", (None, 7)): True}
        found = cases(table, condition, told)
        for key, left, price in itertools.product((1, 4, 5, 10 ** 12), (None, 0, 3, 4, 9), (0, 7, 8, 99)):
            row = (price, left)
            lying = [case for case in found if key in case.span and price in case.spans[0] and left in case.spans[1]]
            truths = [case.truths["fragile"] for case in lying]
            sign = ("item", "fragile", (left, price))
            self.assertEqual(sorted(truths), [told[sign]] if sign in told else [False, True])
            for case in lying:
                sight = Sight().with_told({**told, sign: case.truths["fragile"]})
                self.assert_is(true_by_words(condition, table, key, row, sight), case.passed)

    def test_domain_of_none_and_one_integer(self):
        table = Table("a", Span.numbers(), [("x", Span.of(None, 3))], [("t", ["x"])])
        for told, truths in (({}, [False, False, True, True]), ({("a", "t", (3,)): True}, [False, True, True]),
                             ({("a", "t", (3,)): True, ("a", "t", (None,)): True}, [True, True])):
            found = cases(table, Unseen("t") & CellIn("x", Span.of(None)), told)
            weights = [(case.truths["t"], content) for case in found for content in (None, 3) if content in case.spans[0]]
            self.assertEqual(sorted(truth for truth, _ in weights), truths)

    def test_sample_row(self):
        table = Table("a", Span.numbers(), [("x", Span.everything()), ("y", Span.everything())])
        spans = [(Span([(-5, -2), (3, 9)]), -2), (Span([(-3, -3), (3, 3)]), -3), (Span.of(None), None),
                 (Span([(7, None)], has_none=True), 7), (Span.everything(), 0), (Span([(None, -4)]), -4)]
        for (first, one), (second, other) in itertools.product(spans, repeat=2):
            found = [case for case in cases(table, CellIn("x", first) & CellIn("y", second)) if case.passed]
            samples = [case.sample_row() for case in found]
            self.assertTrue(all(type(row) is tuple for row in samples))
            self.assertEqual(samples, [(one, other)])

    def test_many_leaves_and_stretches(self):
        spans = [Span([(at + 50 * step, at + 50 * step + 20 + at) for step in range(12)]) for at in range(8)]
        table = Table("a", Span.numbers(), [(name, Span.everything()) for name in "wxyz"])
        condition = KeyIn(spans[0])
        for at, span in enumerate(spans[1:]):
            leaf = CellIn("wxyz"[at % 4], span)
            condition = condition & leaf if at % 2 else ~(condition | leaf)
        for key, number in itertools.product((-1, 3, 210), range(0, 600, 37)):
            row = (number, number + 5, 600 - number, None)
            found = cases(table, condition)
            lying = [case for case in found if key in case.span and all(c in span for c, span in zip(row, case.spans))]
            self.assertEqual([case.passed for case in lying], [true_by_words(condition, table, key, row, Sight())])
