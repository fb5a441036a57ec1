import itertools
import random

from helpers import NO_CONTENTS, EqualToAll, KeptCase
from keptbase.errors import Endless, InvalidContent, InvalidSpanText, InvalidStretch
from keptbase.spans import Span, apart, is_content, rank

BIG = 10 ** 12
WINDOW = range(-9, 10)
NO_STRETCHES = [*NO_CONTENTS, None, 1, [1, 2], (1, 2, 3), (2, 1), (1, True), (False, 1), (0, 1.0), ("0", "1"),
                (None, "1"), (EqualToAll(), 2), ((), ())]


def some_spans():
    """Spans with ends from -6 to 6 or none at all, which meet, touch and overlap in many ways."""
    chance = random.Random(5)
    ends = [None, *range(-6, 7)]
    found = [Span(), Span.everything(), Span.numbers(), Span.of(None)]
    while len(found) < 90:
        pairs = [(chance.choice(ends), chance.choice(ends)) for _ in range(chance.randrange(4))]
        pairs = [(low, high) for low, high in pairs if None in (low, high) or low <= high]
        found.append(Span(pairs, has_none=chance.random() < 0.5))
    return found


def has(pairs, number):
    return any((low is None or low <= number) and (high is None or number <= high) for low, high in pairs)


def seen_in(span):
    """The contents of a span in the window, which reaches beyond all ends."""
    return [content for content in (None, *WINDOW) if content in span]


class Contents(KeptCase):
    def test_is_content(self):
        for value in (None, 0, 1, -1, BIG, -BIG, 10 ** 70):
            self.assert_is(True, is_content(value))
        for value in NO_CONTENTS:
            self.assert_is(False, is_content(value))

    def test_rank_orders_contents(self):
        self.assertEqual([rank(None), rank(0), rank(-BIG)], [(0, 0), (1, 0), (1, -BIG)])
        self.assertEqual(sorted([3, None, -4, 0], key=rank), [None, -4, 0, 3])


class NormalForm(KeptCase):
    def test_stretches_in_any_order_touch_overlap_and_repeat(self):
        cases = [
            ([], ()),
            ([(3, 3)], ((3, 3),)),
            ([(5, 7), (1, 2)], ((1, 2), (5, 7))),
            ([(1, 2), (3, 4)], ((1, 4),)),
            ([(3, 4), (1, 2)], ((1, 4),)),
            ([(1, 2), (4, 4)], ((1, 2), (4, 4))),
            ([(1, 9), (2, 3)], ((1, 9),)),
            ([(1, 5), (3, 9), (3, 9)], ((1, 9),)),
            ([(1, 9), (2, 3), (11, 12), (10, 10)], ((1, 12),)),
            ([(None, 3), (4, None)], ((None, None),)),
            ([(None, 3), (5, None)], ((None, 3), (5, None))),
            ([(5, None), (None, 3), (7, 8)], ((None, 3), (5, None))),
            ([(None, 3), (None, 9), (0, 1)], ((None, 9),)),
            ([(4, None), (6, None), (5, 5)], ((4, None),)),
            ([(None, None), (1, 2)], ((None, None),)),
            ([(-BIG, -1), (0, BIG)], ((-BIG, BIG),)),
        ]
        for pairs, stretches in cases:
            for order in itertools.permutations(pairs):
                span = Span(list(order))
                self.assertEqual(span.stretches, stretches)
                self.assertIs(type(span.stretches), tuple)
                self.assert_is(False, span.has_none)
                self.assertEqual(Span(order, has_none=True).stretches, stretches)
                self.assert_is(True, Span(order, has_none=True).has_none)

    def test_normal_form_of_many(self):
        chance = random.Random(1)
        for _ in range(500):
            pairs = []
            for _ in range(chance.randrange(6)):
                low, high = sorted([chance.randrange(-8, 9), chance.randrange(-8, 9)])
                pairs.append((chance.choice([low, low, low, None]), chance.choice([high, high, high, None])))
            span = Span(pairs)
            for (_, high), (low, _) in zip(span.stretches, span.stretches[1:]):
                self.assertGreater(low, high + 1)
            for number in range(-10, 11):
                self.assertEqual(number in span, has(pairs, number))

    def test_lists_are_copied_and_not_changed(self):
        pairs = [(5, 6), (1, 2), (3, 4)]
        span = Span(pairs)
        self.assertEqual(pairs, [(5, 6), (1, 2), (3, 4)])
        pairs.append((50, 60))
        self.assertEqual(span.stretches, ((1, 6),))

    def test_the_first_item_that_is_no_stretch(self):
        for value in NO_STRETCHES:
            self.assert_error(InvalidStretch, {"position": 0}, Span, [value])
            self.assert_error(InvalidStretch, {"position": 2}, Span, [(1, 2), (None, 0), value, value, (2, 1)])
            self.assert_error(InvalidStretch, {"position": 1}, Span, ((1, 2), value), has_none=True)

    def test_equality(self):
        for first, second in itertools.product(some_spans(), repeat=2):
            same = seen_in(first) == seen_in(second)
            self.assert_is(same, first == second)
            self.assert_is(not same, first != second)
        span = Span([(1, 2)])
        for other in (((1, 2),), [(1, 2)], "1..2", None, 1, (((1, 2),), False), EqualToAll()):
            self.assertFalse(span == other)

    def test_apart(self):
        cases = [("1..3", "1..3", []), ("none, 1", "1", [None]), ("none, 1", "5", [None]), ("nothing", "-3..3", [0]),
                 ("..", "..-3, 3..", [0]), ("-2, 2", "nothing", [-2]), ("2", "-2", [-2]), ("1..9", "1..8, 10", [9]),
                 ("..", "nothing", [0]), ("..-5", "nothing", [-5]), ("none", "nothing", [None]), ("none", "none", []),
                 ("-7, 6", "nothing", [6]), ("0..5", "0..", [6])]
        for first, second, found in cases:
            self.assertEqual(apart(Span.read(first), Span.read(second)), found)
            self.assertEqual(apart(Span.read(second), Span.read(first)), found)

    def test_apart_of_many(self):
        for first, second in itertools.product(some_spans(), repeat=2):
            odd = [content for content in (None, *WINDOW) if (content in first) != (content in second)]
            odd = sorted(odd, key=lambda content: (content is not None, abs(content or 0), content or 0))
            self.assertEqual(apart(first, second), odd[:1])


class MakingSpans(KeptCase):
    def test_everything_and_numbers(self):
        self.assertEqual(Span.everything(), Span([(None, None)], has_none=True))
        self.assertEqual(Span.numbers(), Span([(None, None)]))

    def test_of(self):
        self.assertEqual(Span.of(), Span())
        self.assertEqual(Span.of(None, None), Span([], has_none=True))
        self.assertEqual(Span.of(3, 1, 2, 3, None, BIG), Span([(1, 3), (BIG, BIG)], has_none=True))

    def test_of_raises_for_the_first_that_is_no_content(self):
        for value in NO_CONTENTS:
            self.assert_error(InvalidContent, {"value": value}, Span.of, value)
            self.assert_error(InvalidContent, {"value": value}, Span.of, 1, None, value, "later")

    def test_they_are_static(self):
        for name in ("everything", "numbers", "of", "read"):
            self.assertIsInstance(vars(Span)[name], staticmethod)


class Operators(KeptCase):
    def test_meet_union_remainder_complement_within(self):
        contents = (None, *WINDOW)
        for first, second in itertools.product(some_spans(), repeat=2):
            a, b = seen_in(first), seen_in(second)
            self.assertEqual(seen_in(first & second), [c for c in contents if c in a and c in b])
            self.assertEqual(seen_in(first | second), [c for c in contents if c in a or c in b])
            self.assertEqual(seen_in(first - second), [c for c in a if c not in b])
            self.assert_is(all(c in b for c in a), first.within(second))
        for span in some_spans():
            self.assertEqual(seen_in(~span), [c for c in contents if c not in span])
            self.assertEqual(~~span, span)

    def test_results_are_in_normal_form(self):
        for first, second in itertools.product(some_spans()[:40], repeat=2):
            for found in (first & second, first | second, first - second, ~first):
                self.assertEqual(found, Span(found.stretches, has_none=found.has_none))
                self.assertIs(type(found.stretches), tuple)
                self.assertIn(found.has_none, (True, False))
                for (_, high), (low, _) in zip(found.stretches, found.stretches[1:]):
                    self.assertGreater(low, high + 1)

    def test_edges(self):
        self.assertEqual(~Span(), Span.everything())
        self.assertEqual(~Span.everything(), Span())
        self.assertEqual(~Span.numbers(), Span.of(None))
        self.assertEqual(str(~Span([(-BIG, BIG)])), f"none, ..{-BIG - 1}, {BIG + 1}..")
        self.assertEqual(Span.of(1) | Span.of(2), Span([(1, 2)]))
        self.assertEqual(Span.everything() - Span.of(None, 0), Span([(None, -1), (1, None)]))
        self.assertTrue(Span().within(Span()))

    def test_operands_stay(self):
        first, second = Span([(1, 5)]), Span([(3, 9)], has_none=True)
        for _ in (first & second, first | second, first - second, ~first, first.within(second), first.shifted(4)):
            self.assertEqual((first.stretches, first.has_none, first.size), (((1, 5),), False, 5))
            self.assertEqual((second.stretches, second.has_none, second.size), (((3, 9),), True, 7))

    def test_bool(self):
        for span in some_spans():
            self.assert_is(seen_in(span) != [], bool(span))
        self.assert_is(False, bool(Span()))
        self.assert_is(True, bool(Span.of(None)))
        self.assert_is(True, bool(Span.of(0)))

    def test_contains_values_of_any_kind(self):
        for value in NO_CONTENTS:
            for span in (Span.everything(), Span.of(0, 1, None)):
                self.assert_is(False, value in span)
        self.assert_is(True, None in Span.of(None))
        self.assert_is(False, None in Span.numbers())
        self.assert_is(True, 10 ** 40 in Span.numbers())
        self.assert_is(True, -BIG in Span([(-BIG, BIG)]))
        self.assert_is(False, -BIG - 1 in Span([(-BIG, BIG)]))


class SizeAndList(KeptCase):
    def test_size(self):
        cases = [("nothing", 0), ("none", 0), ("none, 3", 1), ("1..3, 7", 4), ("-5..5", 11), ("..3", None),
                 ("3..", None), ("..", None), ("none, ..0, 2..", None), (f"{-BIG}..{BIG}", 2 * BIG + 1)]
        for text, size in cases:
            self.assertEqual(Span.read(text).size, size)

    def test_listed(self):
        cases = [("nothing", []), ("none", [None]), ("7, 1..3, none", [None, 1, 2, 3, 7]), ("-2..-1", [-2, -1])]
        for text, found in cases:
            span = Span.read(text)
            self.assertEqual(span.listed(), found)
            span.listed().append(5)
            self.assertEqual(span.listed(), found)

    def test_endless(self):
        for text in ("..", "..3", "3..", "none, ..0, 2..9", "1..2, 4.."):
            self.assert_error(Endless, {}, Span.read(text).listed)


class ShiftedAndNearest(KeptCase):
    def test_shifted(self):
        for span in some_spans():
            for by in (0, 1, -2, 3):
                moved = span.shifted(by)
                self.assertEqual(moved.has_none, span.has_none)
                for number in WINDOW:
                    self.assert_is(number - by in span, number in moved)
        self.assertEqual(Span([(None, 3), (5, 6)]).shifted(BIG), Span([(None, BIG + 3), (BIG + 5, BIG + 6)]))

    def test_nearest(self):
        for span in some_spans():
            integers = [content for content in seen_in(span) if content is not None]
            for number in range(-6, 7):
                near = min(integers, key=lambda n: (abs(n - number), n)) if integers else None
                self.assertEqual(span.nearest(number), near)

    def test_nearest_edges(self):
        self.assertIsNone(Span().nearest(0))
        self.assertIsNone(Span.of(None).nearest(4))
        self.assertEqual(Span.of(-2, 2).nearest(0), -2)
        self.assertEqual(Span.of(1, 5).nearest(3), 1)
        self.assertEqual(Span.numbers().nearest(BIG), BIG)
        self.assertEqual(Span([(None, 4)]).nearest(BIG), 4)
        self.assertEqual(Span([(None, 0), (10, None)]).nearest(5), 0)


class WrittenForm(KeptCase):
    def test_written(self):
        cases = [(Span(), "nothing"), (Span.of(None), "none"), (Span.of(0), "0"), (Span([(-3, -3)]), "-3"),
                 (Span([(1, 2)]), "1..2"), (Span([(1, None)]), "1.."), (Span([(None, -1)]), "..-1"),
                 (Span.numbers(), ".."), (Span.everything(), "none, .."),
                 (Span([(None, -5), (0, 0), (2, 9), (11, None)], has_none=True), "none, ..-5, 0, 2..9, 11.."),
                 (Span([(-BIG, BIG)]), "-1000000000000..1000000000000")]
        for span, text in cases:
            self.assertEqual(str(span), text)
            self.assertEqual(Span.read(text), span)

    def test_what_is_written_is_read(self):
        for span in some_spans():
            self.assertEqual(Span.read(str(span)), span)

    def test_read_in_any_order_touching_overlapping_repeated(self):
        cases = [("3, 1, 2", "1..3"), ("5.., ..3", "..3, 5.."), ("1..5, 2, none, none", "none, 1..5"),
                 ("1, none, 1", "none, 1"), ("3..3", "3"), ("..1, 2..", ".."), ("0..0, 0", "0"),
                 (".., 4", ".."), ("-3..-1, 0", "-3..0")]
        for text, written in cases:
            self.assertEqual(str(Span.read(text)), written)

    def test_parts_that_are_not_read(self):
        for part in ("", " ", "-", "-0", "+1", "007", "1 ", " 1", "None", "nothings", "1.2", "1...2", "...", "1..2..3",
                     "5..4", "-1..-2", "0..-1", "a..b", "1..none", "none..", "..-", "-..", "01..2", "1..02", "1,2", ",",
                     "1;2", "1..\n2", "..-0", "\u0661", "1..\u0662", "1" * 61, "1.." + "2" * 61, ".. ", "1 ..2", "(1, 2)"):
            for head in ([], ["1"], ["none", "..", "5..6"]):
                at = len(head)
                self.assert_error(InvalidSpanText, {"position": at}, Span.read, ", ".join([*head, part]))
                self.assert_error(InvalidSpanText, {"position": at}, Span.read, ", ".join([*head, part, "x", ""]))

    def test_separators(self):
        cases = [("1,2", 0), ("1 , 2", 0), ("1,  2", 1), ("1, ", 1), (", 1", 0), ("1,, 2", 0), ("1, , 2", 1),
                 ("1\n2", 0), ("nothing, 1", 0), ("1, nothing", 1), ("nothing, nothing", 0), (",", 0), ("nothing ", 0)]
        for text, at in cases:
            self.assert_error(InvalidSpanText, {"position": at}, Span.read, text)
