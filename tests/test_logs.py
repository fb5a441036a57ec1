import itertools
import random

from helpers import NO_CONTENTS, KeptCase, shop_schema, wide_world
from keptbase.carrying import carried, carried_run
from keptbase.conditions import Always
from keptbase.errors import DoesNotFit, DoesNotSit, InvalidSeen, NoSuchEntry, NotLinked
from keptbase.grips import sits
from keptbase.layers import Layer, between
from keptbase.logs import Log
from keptbase.parts import Part
from keptbase.questions import Question
from keptbase.stores import Store
from keptbase.versions import led_stores, state_of
from scenes import PlainLog

SHOP = shop_schema()
COUNT = Question(SHOP, "count", "item")
TOTAL = Question(SHOP, "sum", "note", ["cents"])
WORLD = wide_world()
QUESTIONS = WORLD.questions(every=7, conditions=[Always()])


def layer(*changes):
    return Layer(SHOP, [("item", *change) for change in changes])


PUT = layer((3, None, (5, 1)), (7, (8, 0), None))
DEARER = layer((3, (5, 1), (6, 1)))
GONE = layer((3, (6, 1), None), (4, None, (1, 1)))
NONE = layer()


def plain_logs(seed, many, sizes):
    chance = random.Random(seed)
    return [PlainLog(WORLD, chance, chance.choice(sizes), QUESTIONS, chance.choice([0.3, 0.5])) for _ in range(many)]


class Logs(KeptCase):
    def test_attributes(self):
        entries = [([COUNT, TOTAL], 0, PUT), ((), 1, DEARER), ([COUNT], 0, NONE), ((TOTAL,), 2, GONE)]
        for many in range(5):
            for given in (entries[:many], tuple(entries[:many])):
                found = Log(SHOP, given)
                self.assertIs(found.schema, SHOP)
                self.assertEqual((found.size, found.seen), (many, (0, 1, 0, 2)[:many]))
                self.assertEqual(found.asks, ((COUNT, TOTAL), (), (COUNT,), (TOTAL,))[:many])
                self.assertEqual(found.layers, (PUT, DEARER, NONE, GONE)[:many])
                self.assertEqual([type(value) for value in (found.asks, found.seen, found.layers)], [tuple] * 3)
                self.assertTrue(all(type(asks) is tuple for asks in found.asks))
        self.assertEqual(Log(SHOP).size, 0)

    def test_base(self):
        found = Log(SHOP, [([], 0, PUT), ([], 1, DEARER), ([], 0, NONE), ([], 2, GONE)]).base
        self.assertIs(type(found), Part)
        self.assertEqual(list(found), [("item", 3, None), ("item", 4, None), ("item", 7, (8, 0))])
        self.assertEqual(list(Log(SHOP).base), [])
        self.assertEqual(list(Log(SHOP, [([], 0, NONE)]).base), [])

    def test_base_and_bearing_of_random_logs(self):
        for plain in plain_logs(31, 40, [0, 1, 2, 3, 4]):
            log = Log(WORLD.schema, plain.entries())
            touched = [("a", key) for key, told in zip(WORLD.keys, plain.touched) if told]
            self.assertEqual(log.base, Part.of(WORLD.store(plain.versions[0]), touched))
            bearing = plain.bearing()
            for images in WORLD.stores:
                store = WORLD.store(images)
                self.assert_is(images in bearing, log.bears(store))
                if images in bearing:
                    stores = [WORLD.store(plain.carried(images, range(1, k + 1))) for k in range(log.size + 1)]
                    found = led_stores(log, store)
                    self.assertEqual((type(found), found), (list, stores))
                else:
                    with self.assertRaises(DoesNotFit):
                        led_stores(log, store)

    def test_lists_are_copied(self):
        asks = [COUNT]
        entries = [(asks, 0, PUT)]
        found = Log(SHOP, entries)
        asks.append("more")
        entries.append("more")
        self.assertEqual((found.size, found.asks), (1, ((COUNT,),)))

    def test_invalid_seen(self):
        for at in range(3):
            for wrong in (-1, at + 1, at + 2, 10 ** 12, None, *NO_CONTENTS):
                entries = [([], 0, NONE)] * at + [([], wrong, PUT), ([], "later", GONE), ([], 0, PUT)]
                self.assert_error(InvalidSeen, {"entry": at + 1}, Log, SHOP, entries)
                log = Log(SHOP, [([], 0, NONE)] * at)
                self.assert_error(InvalidSeen, {"entry": at + 1}, log.with_entry, [], wrong, PUT)

    def test_not_linked(self):
        told = {"entry": 2, "table": "item", "key": 3}
        # DEARER's old image is not that which GONE leaves, and PUT has two places that are not linked.
        self.assert_error(NotLinked, told, Log, SHOP, [([], 0, GONE), ([], 0, DEARER), ([], "later", NONE)])
        self.assert_error(NotLinked, told, Log, SHOP, [([], 0, PUT), ([], 1, GONE)])
        self.assert_error(NotLinked, told, Log, SHOP, [([], 0, PUT), ([], 1, PUT)])
        self.assert_error(NotLinked, told, Log(SHOP, [([], 0, PUT)]).with_entry, [], 1, PUT)
        last = layer((4, None, (2, 2)), (9, None, (2, 2)))
        self.assert_error(NotLinked, {"entry": 5, "table": "item", "key": 4}, Log, SHOP,
                          [([], 0, PUT), ([], 1, DEARER), ([], 0, NONE), ([], 2, GONE), ([], 4, last)])
        notes = Layer(SHOP, [("note", 1, None, (1,))])
        both = Layer(SHOP, [("note", 1, None, (2,)), ("item", 8, (8, 0), None), ("item", 9, (8, 0), None)])
        self.assert_error(NotLinked, {"entry": 2, "table": "note", "key": 1}, Log, SHOP, [([], 0, notes), ([], 0, both)])

    def test_the_first_entry_with_an_error(self):
        self.assert_error(InvalidSeen, {"entry": 2}, Log, SHOP, [([], 0, GONE), ([], 2, DEARER)])
        self.assert_error(NotLinked, {"entry": 2, "table": "item", "key": 3}, Log, SHOP, [([], 0, GONE), ([], 1, DEARER), ([], 9, NONE)])
        self.assert_error(InvalidSeen, {"entry": 1}, Log, SHOP, [([], 1, GONE), ([], 1, DEARER)])

    def test_with_entry(self):
        log = Log(SHOP, [([COUNT], 0, PUT)])
        longer = log.with_entry([TOTAL, COUNT], 1, DEARER).with_entry((), 0, GONE)
        self.assertEqual((type(longer), longer.size, longer.seen), (Log, 3, (0, 1, 0)))
        self.assertEqual((longer.asks, longer.layers), (((COUNT,), (TOTAL, COUNT), ()), (PUT, DEARER, GONE)))
        self.assertEqual(longer.base.size, 3)
        self.assertEqual((log.size, log.asks, log.base.size), (1, ((COUNT,),), 2))

    def test_without(self):
        right = layer((7, None, (9, 9)))
        log = Log(SHOP, [([COUNT], 0, PUT), ([TOTAL], 1, DEARER), ([], 1, right), ([COUNT, TOTAL], 3, NONE)])
        shorter = log.without(2)
        self.assertEqual((type(shorter), shorter.layers, shorter.seen), (Log, (PUT, right, NONE), (0, 1, 2)))
        self.assertEqual(shorter.asks, ((COUNT,), (), (COUNT, TOTAL)))
        self.assertEqual(log.without(3).base.places(), log.base.places())
        self.assertEqual((log.without(4).seen, log.without(3).seen), ((0, 1, 1), (0, 1, 2)))
        self.assertEqual((log.size, log.seen), (4, (0, 1, 1, 3)))
        self.assertEqual(Log(SHOP, [([], 0, PUT)]).without(1).size, 0)

    def test_without_makes_layers_of_other_columns(self):
        dearer, fewer = layer((3, (5, 1), (6, 1))), layer((3, (6, 1), (6, 0)))
        log = Log(SHOP, [([], 0, dearer), ([], 0, fewer)])
        self.assertEqual(log.without(1).layers, (layer((3, (5, 1), (5, 0))),))
        self.assertEqual(list(log.without(1).base), [("item", 3, (5, 1))])
        self.assertEqual(log.without(2).layers, (dearer,))

    def test_without_errors(self):
        log = Log(SHOP, [([], 0, PUT), ([], 1, DEARER), ([], 2, GONE)])
        for wrong in (0, 4, -1, None, *NO_CONTENTS):
            self.assert_error(NoSuchEntry, {"entry": wrong}, log.without, wrong)
        self.assert_error(DoesNotSit, {"cell": ("item", 3, "there")}, log.without, 1)
        self.assert_error(DoesNotSit, {"cell": ("item", 3, "price")}, log.without, 2)
        self.assertEqual(log.without(3).layers, (PUT, DEARER))
        self.assert_error(NoSuchEntry, {"entry": 1}, Log(SHOP).without, 1)

    def test_without_in_random_logs(self):
        kept = 0
        for plain in plain_logs(32, 60, [1, 2, 3, 4]):
            log = Log(WORLD.schema, plain.entries())
            for number in range(1, log.size + 1):
                left = [entry for entry in range(1, log.size + 1) if entry != number]
                images = [plain.carried(plain.versions[0], left[:many]) for many in range(len(left) + 1)]
                if images[-1] is None:
                    with self.assertRaises(DoesNotSit):
                        log.without(number)
                    continue
                kept += 1
                shorter = log.without(number)
                stores = [WORLD.store(told) for told in images]
                self.assertEqual(shorter.layers, tuple(between(one, other) for one, other in zip(stores, stores[1:])))
                self.assertEqual(shorter.asks, tuple(tuple(plain.asks[entry - 1]) for entry in left))
                self.assertEqual(shorter.seen, tuple(len([other for other in left if other <= plain.seen[entry - 1]]) for entry in left))
                for bearing in plain.bearing()[::5]:
                    last = WORLD.store(plain.carried(bearing, range(1, log.size + 1)))
                    self.assertTrue(sits(-log.layers[number - 1], last))
                    self.assertEqual(carried(-log.layers[number - 1], last), WORLD.store(plain.carried(bearing, left)))
        self.assertGreater(kept, 60)


class Versions(KeptCase):
    def test_states_of_random_logs(self):
        chance, kinds = random.Random(34), set()
        for plain in plain_logs(33, 50, [0, 1, 2, 3, 4]):
            log = Log(WORLD.schema, plain.entries())
            numbers = chance.sample(range(1, log.size + 1), chance.randint(0, log.size))
            images = plain.carried(plain.versions[0], numbers)
            kinds.add(images is None)
            if images is None:
                with self.assertRaises(DoesNotSit):
                    state_of(log, numbers)
                continue
            for given in (numbers, tuple(numbers)):
                found = state_of(log, given)
                self.assertIs(type(found), Part)
                self.assertEqual(found, Part.of(WORLD.store(images), log.base.places()))
            for k in range(log.size + 1):
                state = state_of(log, list(range(1, k + 1)))
                for bearing in plain.bearing():
                    self.assertEqual(state.laid_on(WORLD.store(bearing)), led_stores(log, WORLD.store(bearing))[k])
        self.assertEqual(kinds, {True, False})

    def test_edges(self):
        log = Log(SHOP, [([], 0, PUT), ([], 1, DEARER), ([], 0, NONE)])
        self.assertEqual(state_of(log, []), log.base)
        self.assertEqual(list(state_of(log, [3, 1])), [("item", 3, (5, 1)), ("item", 7, None)])
        self.assertEqual(list(state_of(log, [1, 2, 3])), [("item", 3, (6, 1)), ("item", 7, None)])
        self.assertEqual(list(state_of(Log(SHOP), [])), [])
        self.assertEqual(led_stores(Log(SHOP), Store(SHOP)), [Store(SHOP)])

    def test_errors(self):
        log = Log(SHOP, [([], 0, PUT), ([], 1, DEARER)])
        for wrong in (0, 3, -1, None, *NO_CONTENTS):
            self.assert_error(NoSuchEntry, {"entry": wrong}, state_of, log, [2, wrong, 9])
        self.assert_error(DoesNotSit, {"cell": ("item", 3, "there")}, state_of, log, [2, 1])
        self.assert_error(DoesNotFit, {"table": "item", "key": 7}, led_stores, log, Store(SHOP))
        self.assert_error(DoesNotFit, {"table": "item", "key": 3}, led_stores, log, Store(SHOP, [("item", 3, (5, 1))]))
        store = Store(SHOP, [("item", 7, (8, 0))])
        self.assertEqual(len(led_stores(log, store)), 3)

    def test_the_state_does_not_depend_on_the_order(self):
        for plain in plain_logs(35, 30, [2, 3]):
            log = Log(WORLD.schema, plain.entries())
            states = []
            for order in itertools.permutations(range(1, log.size + 1)):
                if plain.carried(plain.versions[0], order) is not None:
                    states.append(state_of(log, list(order)))
            self.assertTrue(states)
            self.assertEqual(states, [states[0]] * len(states))
            self.assertEqual(states[0].as_store(), carried_run(log.layers, log.base.as_store())[-1])
