"""Part 9: matching orders against all stores that bear a log, all orders and all sights of small worlds."""

import inspect
import itertools
import random

from helpers import NO_CONTENTS, KeptCase, answer_by_words, mixed_world, wide_world
from keptbase.carrying import carried
from keptbase.conditions import Both, CellIn, KeyIn, Unseen
from keptbase.errors import InvalidOrder
from keptbase.formal import formal
from keptbase.grips import layer_area, layer_grip, sits, unseated
from keptbase.layers import Layer
from keptbase.logs import Log
from keptbase.looks import look_between
from keptbase.matching import Misfit, first_matching, is_matching, matching_orders, misfit
from keptbase.questions import Question
from keptbase.schema import Schema, Table
from keptbase.sights import Sight
from keptbase.spans import Span
from keptbase.versions import state_of
from scenes import PlainLog

WORLDS = [wide_world(), mixed_world()]
QUESTIONS = {id(world): world.questions(every=9) + world.questions(every=5, conditions=world.conditions()[:1]) for world in WORLDS}


def plain_logs(seed, many, sizes):
    """Random logs over small worlds, most of them with few changes."""
    chance = random.Random(seed)
    return [PlainLog(world, chance, chance.choice(sizes), QUESTIONS[id(world)], chance.choice([0.25, 0.4, 0.6]))
            for world in WORLDS for _ in range(many)]


def orders_of(log):
    return [list(order) for order in itertools.permutations(range(1, log.size + 1))]


class Matching(KeptCase):
    def test_all_orders_of_random_logs(self):
        seen = set()
        for plain in plain_logs(41, 60, [0, 1, 2, 2, 3, 3]) + plain_logs(42, 3, [4]):
            log = Log(plain.world.schema, plain.entries())
            expected = []
            for order in orders_of(log):
                fault = plain.first_fault(order)
                found = misfit(log, order)
                self.assert_is(fault is None, found is None)
                self.assert_is(fault is None, is_matching(log, tuple(order)))
                if fault is None:
                    expected.append(order)
                else:
                    self.check_misfit(plain, log, found, fault, order[:order.index(fault[0])])
                seen.add(fault if fault is None else fault[1])
            self.assertEqual(list(matching_orders(log)), expected)
            self.assertEqual(first_matching(log), expected[0] if expected else None)
        self.assertEqual(seen, {None, "layer", 0, 1})

    def check_misfit(self, plain, log, found, fault, ahead):
        """Whether a misfit tells what is wrong first."""
        self.assertIs(type(found), Misfit)
        self.assertEqual(list(vars(found)), ["entry", "cell", "asked", "sight", "heard", "other"])
        self.assertEqual(found.entry, fault[0])
        state = state_of(log, ahead)
        if fault[1] == "layer":
            self.assertEqual(found.cell, unseated(log.layers[found.entry - 1], state.as_store()))
            self.assertIsNotNone(found.cell)
            self.assertEqual([found.asked, found.sight, found.heard, found.other], [None] * 4)
            return
        self.assertEqual((found.cell, found.asked), (None, fault[1]))
        question = log.asks[found.entry - 1][found.asked]
        known = state_of(log, list(range(1, log.seen[found.entry - 1] + 1)))
        for part, told in ((known, found.heard), (state, found.other)):
            expected = answer_by_words(question, part.as_store(), found.sight)
            self.assertEqual((type(told), told), (type(expected), expected))
        self.assertNotEqual(found.heard, found.other)

    def test_equal_formal_answers_on_two_states(self):
        """Point 83: exactly if the answers are equal on all stores with the one and with the other laid on them."""
        seen = set()
        for plain in plain_logs(43, 25, [2, 3]):
            log = Log(plain.world.schema, plain.entries())
            lists = [order[:many] for order in orders_of(log) for many in range(log.size + 1)]
            lists = [numbers for numbers in lists if plain.carried(plain.versions[0], numbers) is not None]
            for first, second in itertools.product(lists[:4], lists[-4:]):
                for question in QUESTIONS[id(plain.world)][:12]:
                    answers = plain.world.answers(question)
                    same = all(answers[plain.carried(images, first)] == answers[plain.carried(images, second)] for images in plain.bearing())
                    self.assertEqual(formal(question, state_of(log, first)) == formal(question, state_of(log, second)), same)
                    seen.add(same)
        self.assertEqual(seen, {True, False})

    def test_all_matching_orders_end_alike(self):
        for plain in plain_logs(44, 20, [2, 3]):
            log = Log(plain.world.schema, plain.entries())
            last = state_of(log, list(range(1, log.size + 1)))
            for order in matching_orders(log):
                self.assertEqual(state_of(log, order), last)

    def test_neighbours_that_are_exchanged(self):
        """Point 87, first sentence."""
        seen = set()
        for plain in plain_logs(45, 60, [2, 3]):
            log = Log(plain.world.schema, plain.entries())
            for order in matching_orders(log):
                for at in range(log.size - 1):
                    turned = [*order[:at], order[at + 1], order[at], *order[at + 2:]]
                    expected = self.can_exchange(log, order[:at], order[at], order[at + 1])
                    self.assert_is(expected, is_matching(log, turned))
                    seen.add(expected)
        self.assertEqual(seen, {True, False})

    def can_exchange(self, log, ahead, x, y):
        """Whether the area, the grip and the looks let two neighbours exchange their places."""
        first, second = log.layers[x - 1], log.layers[y - 1]
        if layer_area(first).meets(layer_grip(second)):
            return False
        state = state_of(log, ahead)
        for layer, entry in ((first, y), (second, x)):
            if not sits(layer, state.as_store()):
                return False
            other = [*ahead, x] if layer is first else [*ahead, y]
            if any(look_between(question, state, state_of(log, other)) for question in log.asks[entry - 1]):
                return False
        return True

    def test_the_order_as_they_came_and_one_entry_more(self):
        """Point 87, the other sentences."""
        seen = set()
        for plain in plain_logs(46, 60, [1, 2, 3]):
            log = Log(plain.world.schema, plain.entries())
            states = [state_of(log, list(range(1, k + 1))) for k in range(log.size + 1)]
            blank = [not any(look_between(question, states[log.seen[at]], states[at]) for question in log.asks[at]) for at in range(log.size)]
            self.assert_is(all(blank), is_matching(log, list(range(1, log.size + 1))))
            entries = list(zip(log.asks, log.seen, log.layers))
            shorter = Log(plain.world.schema, entries[:-1])
            asks, seen_by_it = log.asks[-1], log.seen[-1]
            last = not any(look_between(question, states[seen_by_it], states[-2]) for question in asks)
            for order in matching_orders(shorter):
                self.assert_is(last, is_matching(log, [*order, log.size]))
                seen.add(last)
        self.assertEqual(seen, {True, False})

    def test_worked_example(self):
        schema = Schema([Table("acct", Span([(1, 9)]), [("cents", Span.everything())])])
        total = Question(schema, "sum", "acct", ["cents"])
        log = Log(schema, [([], 0, Layer(schema, [("acct", 1, (50,), (45,))])), ([total], 0, Layer(schema))])
        found = misfit(log, [1, 2])
        told = [list(matching_orders(log)), found.entry, found.cell, found.asked, found.heard, found.other]
        self.assertEqual(told, [[[2, 1]], 2, None, 0, 50, 45])

    def test_no_entry_and_one(self):
        schema = WORLDS[0].schema
        empty = Log(schema)
        self.assertEqual((misfit(empty, []), list(matching_orders(empty)), first_matching(empty)), (None, [[]], []))
        self.assert_is(True, is_matching(empty, ()))
        one = Log(schema, [(QUESTIONS[id(WORLDS[0])], 0, Layer(schema, [("a", 0, None, WORLDS[0].rows[0])]))])
        self.assertEqual((misfit(one, [1]), list(matching_orders(one)), first_matching(one)), (None, [[1]], [1]))

    def test_orders_by_layers_alone(self):
        schema = Schema([Table("acct", Span([(1, 9)]), [("cents", Span.everything()), ("limit", Span.everything())])])
        put, cents = Layer(schema, [("acct", 1, None, (5, 5))]), Layer(schema, [("acct", 1, (5, 5), (6, 5))])
        limit, other = Layer(schema, [("acct", 1, (6, 5), (6, 7))]), Layer(schema, [("acct", 2, (0, 0), None)])
        log = Log(schema, [([], 0, put), ([], 0, cents), ([], 0, limit), ([], 0, other)])
        self.assertEqual(first_matching(log), [1, 2, 3, 4])
        self.assertEqual(len(list(matching_orders(log))), 8)
        self.assertEqual(misfit(log, [4, 2, 1, 3]).cell, ("acct", 1, "there"))
        self.assertEqual((misfit(log, [4, 2, 1, 3]).entry, is_matching(log, [1, 3, 4, 2])), (2, True))
        again = Log(schema, [([], 0, put), ([], 0, -put), ([], 0, put)])
        self.assertEqual(list(matching_orders(again)), [[1, 2, 3], [3, 2, 1]])
        self.assertEqual([misfit(again, order).entry for order in ([1, 3, 2], [2, 1, 3])], [3, 2])

    def test_no_matching_order(self):
        schema = Schema([Table("acct", Span([(1, 9)]), [("cents", Span.everything())])])
        total = Question(schema, "sum", "acct", ["cents"])
        one, other = Layer(schema, [("acct", 1, None, (5,))]), Layer(schema, [("acct", 2, None, (7,))])
        log = Log(schema, [([total], 0, one), ([total], 0, other)])
        self.assertEqual((first_matching(log), list(matching_orders(log))), (None, []))
        self.assertEqual([(found.entry, found.heard, found.other) for found in (misfit(log, [1, 2]), misfit(log, [2, 1]))], [(2, 0, 5), (1, 0, 7)])
        self.assertEqual(first_matching(Log(schema, [([total], 0, one), ([total], 1, other)])), [1, 2])

    def test_sights_that_tell_answers_apart(self):
        schema = Schema([Table("a", Span.read("1.."), [("n", Span.numbers())], [("odd", ["n"])])])
        for kind, shown, heard, other in (("sum", ["n"], 7, 8), ("some", [], True, False), ("rows", ["n"], [(7,)], [(8,)]),
                                          ("first", ["n"], (1, (7,)), None), ("least", ["n"], 7, None)):
            question = Question(schema, kind, "a", shown, where=Unseen("odd"))
            log = Log(schema, [([], 0, Layer(schema, [("a", 1, (7,), (8,))])), ([question], 0, Layer(schema))])
            found = misfit(log, [1, 2])
            self.assertEqual((found.entry, found.asked), (2, 0))
            self.assertNotEqual(found.heard, found.other)
            for n, told in ((7, found.heard), (8, found.other)):
                holds = found.sight.holds(("a", "odd", (n,)))
                empty = {"sum": 0, "some": False, "rows": []}.get(kind)
                full = {"sum": n, "some": True, "rows": [(n,)], "first": (1, (n,)), "least": n}[kind]
                self.assertEqual(told, full if holds else empty)
            self.assertIs(type(found.sight), Sight)

    def test_a_row_that_moves_to_another_key(self):
        """The shown contents stay as they are, which only "first" and a shown key can tell."""
        schema = Schema([Table("a", Span.read("1.."), [("n", Span.numbers())])])
        moved = Layer(schema, [("a", 1, (7,), None), ("a", 2, None, (7,))])
        for kind, shown, told in (("first", ["n"], ((1, (7,)), (2, (7,)))), ("first", ["key"], ((1, (1,)), (2, (2,)))), ("least", ["n"], None),
                                  ("rows", ["n"], None), ("rows", ["key", "n"], ([(1, 7)], [(2, 7)])), ("count", [], None), ("some", [], None)):
            log = Log(schema, [([], 0, moved), ([Question(schema, kind, "a", shown)], 0, Layer(schema))])
            found = misfit(log, [1, 2])
            self.assertEqual(None if found is None else (found.heard, found.other), told)
            self.assertEqual(first_matching(log), [1, 2] if told is None else [2, 1])

    def test_a_generator_of_new_lists(self):
        schema = WORLDS[0].schema
        log = Log(schema, [([], 0, Layer(schema))] * 3)
        found = matching_orders(log)
        self.assertTrue(inspect.isgenerator(found))
        next(found).append("more")
        self.assertEqual(list(found), [list(order) for order in itertools.permutations((1, 2, 3))][1:])
        for change in (lambda order: order.pop(), lambda order: order.clear(), lambda order: order.reverse()):
            told = []
            for order in matching_orders(log):
                told.append(tuple(order))
                change(order)
            self.assertEqual(told, list(itertools.permutations((1, 2, 3))))
        first_matching(log).append("more")
        self.assertEqual(first_matching(log), [1, 2, 3])

    def test_invalid_orders(self):
        schema = WORLDS[0].schema
        log = Log(schema, [([], 0, Layer(schema)), ([], 0, Layer(schema))])
        for order in ([], [1], [1, 1], [1, 2, 3], [0, 1], (2,), [None, 1], *[[value, 2] for value in NO_CONTENTS]):
            for call in (misfit, is_matching):
                self.assert_error(InvalidOrder, {"listing": tuple(order)}, call, log, order)
        self.assert_error(InvalidOrder, {"listing": (1,)}, misfit, Log(schema), [1])

    def test_near_the_limits(self):
        table = Table("a", Span([(1, None)]), [(name, Span([(0, 99)])) for name in "xyz"], [("odd", ["x"]), ("low", ["y"])])
        schema = Schema([table])
        where = [Both(KeyIn(Span([(1, 80)])), CellIn("y", Span([(1, 50)])), Unseen("odd") | Unseen("low"), ~CellIn("x", Span.of(9))),
                 ~(CellIn("x", Span.of(0)) & Unseen("odd")) | (Unseen("low") & CellIn("y", Span.of(2)))]
        questions = [Question(schema, kind, "a", shown, where=condition) for condition, (kind, shown) in
                     zip(where * 3, [("sum", ["x"]), ("least", ["z"]), ("some", []), ("rows", ["x"]), ("first", ["y"]), ("count", [])])]
        rows = [(key % 2, key % 3, key % 7) for key in range(91)]
        layers = [Layer(schema, [("a", key, rows[key], (*rows[key][:2], rows[key][2] + 1)) for key in range(12 * at + 1, 12 * at + 13)])
                  for at in range(7)]
        log = Log(schema, [(questions if at % 3 == 0 else questions[3:4], at // 2, layer) for at, layer in enumerate(layers)])
        self.assertEqual(log.base.size, 84)
        found = first_matching(log)
        self.assertEqual(found, next(iter(matching_orders(log))))
        self.assertIsNone(misfit(log, found))
        stores = [log.base.as_store()]
        for entry in found:
            stores.append(carried(log.layers[entry - 1], stores[-1]))
        self.assertEqual(stores[-1], state_of(log, [1, 2, 3, 4, 5, 6, 7]).as_store())
