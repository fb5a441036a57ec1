import itertools
import random

from helpers import NO_CONTENTS, KeptCase, all_sights, rows_of_table, shop_schema, tiny_schema
from keptbase.conditions import Always, Both, CellIn, Condition, Either, KeyIn, Not, Unseen
from keptbase.errors import InvalidKeyTest, NoSuchColumn, NoSuchTest
from keptbase.sights import Sight, sign_of
from keptbase.spans import Span

TABLE = tiny_schema().table_of("a")
ITEM = shop_schema().table_of("item")
SIGNS = sorted({sign_of(TABLE, test, row) for test in TABLE.tests for row in rows_of_table(TABLE)}, key=repr)
LEAVES = [KeyIn(Span.of(-1)), KeyIn(Span()), CellIn("x", Span.of(None, 7)), CellIn("y", Span([(2, None)])),
          CellIn("x", Span.everything()), Unseen("odd"), Unseen("low")]


def truth_by_words(condition, key, row, sight):
    """The truth of a condition about the tiny table, told straight from point 32."""
    if isinstance(condition, KeyIn):
        return key in condition.span
    if isinstance(condition, CellIn):
        return row[TABLE.columns.index(condition.column)] in condition.span
    if isinstance(condition, Unseen):
        return sight.holds(sign_of(TABLE, condition.test, row))
    if isinstance(condition, Both):
        return all(truth_by_words(part, key, row, sight) for part in condition.parts)
    if isinstance(condition, Either):
        return any(truth_by_words(part, key, row, sight) for part in condition.parts)
    if isinstance(condition, Not):
        return not truth_by_words(condition.part, key, row, sight)
    return True


def leaves_by_words(condition):
    if isinstance(condition, (KeyIn, CellIn, Unseen)):
        return [condition]
    parts = [condition.part] if isinstance(condition, Not) else getattr(condition, "parts", ())
    return [leaf for part in parts for leaf in leaves_by_words(part)]


def some_conditions():
    chance = random.Random(6)
    found = [Condition(), Always(), Both(), Either(), *LEAVES]
    while len(found) < 120:
        kind = chance.choice([Both, Either, Not])
        parts = [chance.choice(found) for _ in range(1 if kind is Not else chance.randrange(4))]
        made = kind(*parts)
        if len(made.leaves()) <= 8:
            found.append(made)
    return found


class Truth(KeptCase):
    def test_counts_and_judge(self):
        chance = random.Random(7)
        sights = chance.sample(all_sights(SIGNS), 12)
        for condition, key, row, sight in itertools.product(some_conditions(), (-1, 0), rows_of_table(TABLE), sights):
            truth = truth_by_words(condition, key, row, sight)
            self.assert_is(truth, condition.counts(TABLE, key, row, sight))
            truths = {test: sight.holds(sign_of(TABLE, test, row)) for test in TABLE.tests}
            self.assert_is(truth, condition.judge(TABLE, key, row, truths))

    def test_each_condition(self):
        sight = Sight((), [("a", "odd", (2, 0))])
        cases = [(Condition(), True), (Always(), True), (KeyIn(Span.of(-1, 5)), True), (KeyIn(Span.of(0)), False),
                 (CellIn("x", Span.of(0)), True), (CellIn("x", Span.of(None)), False), (CellIn("y", Span.of(2)), True),
                 (CellIn("y", Span.of(-100, 2, None)), True), (CellIn("y", Span()), False), (Unseen("odd"), True),
                 (Unseen("low"), False), (Both(), True), (Either(), False), (Not(Either()), True), (Not(Both()), False),
                 (Both(Always(), Unseen("low")), False), (Either(Unseen("low"), Always()), True),
                 (Both(Always()), True), (Either(Unseen("low")), False)]
        for condition, truth in cases:
            self.assert_is(truth, condition.counts(TABLE, -1, (0, 2), sight))

    def test_contents_outside_of_the_domain(self):
        for span in (Span.of(5, None, 99), Span([(None, None)]), Span([(3, 10 ** 12)])):
            for row in rows_of_table(TABLE):
                self.assert_is(row[0] in span, CellIn("x", span).counts(TABLE, 0, row, Sight()))

    def test_one_object_at_several_places(self):
        leaf = Unseen("odd")
        part = Either(leaf, Not(leaf))
        condition = Both(part, part, leaf)
        self.assertEqual([found is leaf for found in condition.leaves()], [True] * 5)
        for row in rows_of_table(TABLE):
            sight = Sight((), [sign_of(TABLE, "odd", row)])
            self.assert_is(True, condition.counts(TABLE, 0, row, sight))
            self.assert_is(False, condition.counts(TABLE, 0, row, Sight()))

    def test_views_in_another_order_than_the_columns(self):
        sight = Sight((), [("item", "fragile", (3, 50))])
        self.assert_is(True, Unseen("fragile").counts(ITEM, 1, (50, 3), sight))
        self.assert_is(False, Unseen("fragile").counts(ITEM, 1, (3, 5), sight))

    def test_judge_takes_the_truths_as_they_are_told(self):
        condition = Both(Unseen("odd"), Not(Unseen("low")))
        for odd, low in itertools.product([False, True], repeat=2):
            truths = {"odd": odd, "low": low, "more": True}
            self.assert_is(odd and not low, condition.judge(TABLE, 0, (0, 1), truths))
            self.assertEqual(truths, {"odd": odd, "low": low, "more": True})

    def test_judge_raises_no_errors_for_leaves(self):
        for condition in (CellIn("z", Span.everything()), Unseen("z"), CellIn([], Span()),
                          Both(Always(), CellIn("left", Span.of(0)))):
            self.assert_is(False, condition.judge(TABLE, 0, (0, 1), {"odd": True, "low": True}))
        self.assert_is(True, Unseen("z").judge(TABLE, 0, (0, 1), {"z": True}))
        self.assert_is(True, Either(Always(), CellIn("z", Span())).judge(TABLE, 0, (0, 1), {}))


class Leaves(KeptCase):
    def test_from_left_to_right(self):
        for condition in some_conditions():
            found = condition.leaves()
            expected = leaves_by_words(condition)
            self.assertEqual([id(leaf) for leaf in found], [id(leaf) for leaf in expected])
            found.append(Always())
            self.assertEqual(len(condition.leaves()), len(expected))

    def test_conditions_without_leaves(self):
        for condition in (Condition(), Always(), Both(), Either(), Not(Always()), Both(Always(), Either())):
            self.assertEqual(condition.leaves(), [])

    def test_each_leaf_is_its_own_only_leaf(self):
        for leaf in LEAVES:
            self.assertEqual([found is leaf for found in leaf.leaves()], [True])


class Making(KeptCase):
    def test_attributes(self):
        span = Span.of(1, 2)
        first, second = Always(), Unseen("odd")
        self.assertEqual((KeyIn(span).span, CellIn("x", span).span, CellIn("x", span).column), (span, span, "x"))
        self.assertEqual(Unseen("odd").test, "odd")
        self.assertIs(Not(first).part, first)
        for kind in (Both, Either):
            self.assertEqual(kind().parts, ())
            self.assertEqual(kind(first, second, first).parts, (first, second, first))
        for kind in (Always, KeyIn, CellIn, Unseen, Both, Either, Not):
            self.assertTrue(issubclass(kind, Condition))

    def test_operators(self):
        for first, second in itertools.product([Condition(), *LEAVES[:3], Both(), Not(Always())], repeat=2):
            both, either, neither = first & second, first | second, ~first
            self.assertEqual((type(both), type(either), type(neither)), (Both, Either, Not))
            self.assertTrue(both.parts[0] is first and both.parts[1] is second and len(both.parts) == 2)
            self.assertTrue(either.parts[0] is first and either.parts[1] is second and len(either.parts) == 2)
            self.assertIs(neither.part, first)

    def test_a_span_of_keys_does_not_have_none(self):
        for span in (Span.of(None), Span.everything(), Span.of(None, 3)):
            self.assert_error(InvalidKeyTest, {"span": span}, KeyIn, span)
        for span in (Span(), Span.numbers(), Span.of(-3)):
            self.assertEqual(KeyIn(span).span, span)

    def test_the_first_leaf_that_the_table_does_not_have(self):
        for name in ["", "z", "odd", "key", "there", None, 0, *NO_CONTENTS]:
            for condition in (CellIn(name, Span()), Either(Always(), CellIn("x", Span()), CellIn(name, Span()), Unseen("z")),
                              Both(Either(), Not(CellIn(name, Span.everything())))):
                self.assert_error(NoSuchColumn, {"column": name}, condition.counts, TABLE, 0, (0, 1), Sight())
        for name in ["", "z", "x", None, 0, *NO_CONTENTS]:
            for condition in (Unseen(name), Either(Always(), Unseen("odd"), Unseen(name), CellIn("z", Span())),
                              Both(KeyIn(Span()), Not(Unseen(name)))):
                self.assert_error(NoSuchTest, {"test": name}, condition.counts, TABLE, 0, (0, 1), Sight())

    def test_a_little_beyond_the_limits(self):
        condition = Both(*[CellIn("x", Span.of(0)) for _ in range(12)])
        for _ in range(9):
            condition = Not(condition)
        self.assertEqual(len(condition.leaves()), 12)
        self.assert_is(False, condition.counts(TABLE, 0, (0, 1), Sight()))
        self.assert_is(True, condition.counts(TABLE, 0, (None, 1), Sight()))
