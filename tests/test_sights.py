import itertools

from helpers import NO_CONTENTS, KeptCase, shop_schema, tiny_schema
from keptbase.errors import NoSuchTest
from keptbase.schema import Table
from keptbase.sights import Sight, sign_of
from keptbase.spans import Span

SIGNS = [("a", "odd", (1,)), ("a", "odd", (None,)), ("a", "low", (1,)), ("b", "odd", (1,)), ("b", "odd", (1, 2))]
NOWHERE = ("not", "there", (10 ** 12, None, -1))


def all_told():
    """All dicts that tell some of the signs."""
    found = []
    for truths in itertools.product([None, False, True], repeat=len(SIGNS)):
        found.append({sign: truth for sign, truth in zip(SIGNS, truths) if truth is not None})
    return found


def some_sights():
    defaults = [[], [("a", "odd")], [("a", "odd"), ("b", "odd"), ("not", "there")]]
    exceptions = [[], SIGNS[:1], SIGNS[1:4], [*SIGNS, NOWHERE]]
    return [Sight(one, two) for one, two in itertools.product(defaults, exceptions)]


def truths(sight, signs):
    return [sight.holds(sign) for sign in signs]


class Signs(KeptCase):
    def test_contents_in_the_order_of_the_view(self):
        item = shop_schema().table_of("item")
        self.assertEqual(sign_of(item, "fragile", (5, None)), ("item", "fragile", (None, 5)))
        table = tiny_schema().table_of("a")
        self.assertEqual(sign_of(table, "odd", (0, 2)), ("a", "odd", (2, 0)))
        self.assertEqual(sign_of(table, "low", (None, 2)), ("a", "low", (None,)))
        self.assertEqual(sign_of(table, "low", (None, 2)), sign_of(table, "low", (None, 1)))
        wide = Table("w", Span.numbers(), [(name, Span.numbers()) for name in "abcd"], [("t", ["d", "a", "c"])])
        self.assertEqual(sign_of(wide, "t", (1, 2, 3, 4)), ("w", "t", (4, 1, 3)))

    def test_no_such_test(self):
        item = shop_schema().table_of("item")
        for name in ["", "price", "odd", None, 0, *NO_CONTENTS]:
            self.assert_error(NoSuchTest, {"test": name}, sign_of, item, name, (5, None))


class Sights(KeptCase):
    def test_holds(self):
        sight = Sight([("a", "odd"), ("x", "y")], [SIGNS[0], SIGNS[3]])
        self.assertEqual(truths(sight, SIGNS), [False, True, False, True, False])
        self.assert_is(True, sight.holds(("x", "y", ())))
        for sign in [*SIGNS, NOWHERE]:
            self.assert_is(False, Sight().holds(sign))
            self.assert_is(True, Sight([sign[:2]]).holds(sign))
            self.assert_is(False, Sight([sign[:2]], [sign]).holds(sign))
            self.assert_is(True, Sight((), (sign,)).holds(sign))

    def test_repetitions_have_no_effect_and_lists_are_copied(self):
        defaults, exceptions = [("a", "odd"), ("a", "odd")], [SIGNS[0], SIGNS[3], SIGNS[0], SIGNS[0]]
        sight = Sight(defaults, exceptions)
        expected = truths(Sight([("a", "odd")], [SIGNS[0], SIGNS[3]]), SIGNS)
        self.assertEqual(truths(sight, SIGNS), expected)
        defaults.clear()
        exceptions.append(SIGNS[1])
        self.assertEqual(truths(sight, SIGNS), expected)

    def test_turned(self):
        for sight, sign, truth in itertools.product(some_sights(), [*SIGNS, NOWHERE], [False, True]):
            before = truths(sight, [*SIGNS, NOWHERE])
            turned = sight.turned(sign, truth)
            for other in [*SIGNS, NOWHERE]:
                self.assert_is(truth if other == sign else sight.holds(other), turned.holds(other))
            self.assertEqual(truths(sight, [*SIGNS, NOWHERE]), before)

    def test_with_told_and_agrees(self):
        for sight, told in itertools.product(some_sights(), all_told()):
            agrees = all(sight.holds(sign) == truth for sign, truth in told.items())
            self.assert_is(agrees, sight.agrees(told))
            copy = dict(told)
            found = sight.with_told(told)
            self.assertEqual(told, copy)
            self.assert_is(True, found.agrees(told))
            for sign in [*SIGNS, NOWHERE]:
                self.assert_is(told.get(sign, sight.holds(sign)), found.holds(sign))

    def test_empty_told(self):
        for sight in some_sights():
            self.assert_is(True, sight.agrees({}))
            self.assertEqual(truths(sight.with_told({}), SIGNS), truths(sight, SIGNS))

    def test_told_dicts_are_copied(self):
        told = {SIGNS[0]: True}
        sight = Sight().with_told(told)
        told[SIGNS[0]] = False
        told[SIGNS[1]] = True
        self.assertEqual(truths(sight, SIGNS), [True, False, False, False, False])
