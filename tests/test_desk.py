"""The desk and its works: random deeds against a desk told by words, and what is told of serial orders and undo."""

import collections
import itertools
import random

from deskscenes import NAMES, RULES, SHOP, SIGHTS, Plain, Real, random_deeds, random_store
from helpers import NO_CONTENTS, KeptCase, answer_by_words
from keptbase.answers import answer
from keptbase.carrying import carried
from keptbase.choosers import Fixed
from keptbase.conditions import CellIn, KeyIn
from keptbase.crossing import log_of
from keptbase.desk import Desk
from keptbase.errors import InvalidName
from keptbase.histories import History
from keptbase.layers import Layer
from keptbase.logs import Log
from keptbase.questions import Question
from keptbase.refusals import (Broken, Busy, Heard, InvalidMode, NameTaken, NoSuchName, NoSuchVersion, Overtaken, Ringed,
                               Unmatched)
from keptbase.reports import report
from keptbase.rules import Refers, Unique, Within
from keptbase.running import run
from keptbase.schema import Schema, Table
from keptbase.sights import Sight
from keptbase.spans import Span
from keptbase.stores import Store

MODES = ("areas", "looks")
REFUSED = (Overtaken, Broken, Ringed, Unmatched, Busy, Heard)
ACCT = Schema([Table("acct", Span([(1, 9)]), [("cents", Span.everything()), ("limit", Span.everything())])])
TOTAL = Question(ACCT, "sum", "acct", ["cents"])
LIMITS = Question(ACCT, "rows", "acct", ["limit"])


def log_parts(log):
    return (log.asks, log.seen, log.layers)


class RandomDeeds(KeptCase):
    def check_same(self, real, plain):
        """Whether a desk tells what a desk told by words tells."""
        desk = real.desk
        self.assertEqual((desk.version, desk.newest, desk.names), (len(plain.stores) - 1, plain.stores[-1], plain.names()))
        self.assertEqual([desk.at(number) for number in range(desk.version + 1)], plain.stores)
        self.assertEqual([work.name for work in desk.open_works()], [work.name for work in plain.open_works()])
        self.assertEqual(desk.kept_names, list(plain.kept))
        for name, (question, ways) in plain.kept.items():
            expected = answer_by_words(question, desk.newest, desk.sight)
            self.assertEqual((type(desk.kept(name)), desk.kept(name)), (type(expected), expected))
            self.assertEqual(desk.ways(name), ways)
        self.assertEqual(desk.as_history().seen, tuple(work.seen for work in plain.commits))
        for transaction, work in zip(desk.as_history().transactions, plain.commits):
            self.assertEqual((transaction.asks, transaction.writes), (tuple(work.asks), tuple(transaction.writes)))
            self.assertEqual([vars(write) for write in transaction.writes], [vars(write) for write in work.writes])
        log = plain.log(plain.commits, plain.stores)
        self.assertEqual((desk.as_log().layers, desk.as_log().seen), (log.layers, log.seen))

    def test_random_deeds_on_both_modes(self):
        counts = collections.Counter()
        for seed in range(60):
            chance = random.Random(seed)
            rules = chance.sample(RULES, chance.choice([0, 0, 1, 3]))
            store, sight = random_store(chance), chance.choice(SIGHTS)
            deeds = random_deeds(chance, chance.choice([15, 25, 35]))
            for mode in MODES:
                real, plain = Real(Desk(SHOP, rules, store, sight=sight, mode=mode)), Plain(rules, store, sight, mode)
                for deed in deeds:
                    expected = plain.do(*deed)
                    self.assertEqual(real.do(*deed), expected, (seed, mode, deed))
                    counts[mode, deed[0], expected[0].__name__ if isinstance(expected, tuple) and isinstance(expected[0], type) else None] += 1
                    if deed[0] in ("commit", "undo", "drop"):
                        self.check_same(real, plain)
                self.check_same(real, plain)
                if len(plain.commits) < 6:
                    self.assertEqual(real.desk.serial(), plain.serial())
                counts.update((mode, way) for _, ways in plain.kept.values() for way in ways)
        wanted = [(mode, "commit", name) for mode in MODES for name in (None, "Over", "Overtaken", "Broken")]
        wanted += [("areas", "commit", "Ringed"), ("looks", "commit", "Unmatched"), ("areas", "undo", "Heard"), ("looks", "undo", "Heard")]
        wanted += [(mode, "undo", name) for mode in MODES for name in (None, "NoSuchName", "Busy")]
        wanted += [(mode, way) for mode in MODES for way in ("missed", "blank", "mended", "read")]
        wanted += [(mode, "write", name) for mode in MODES for name in (None, "SharedCell", "InvalidChoice", "NoSuchTable", "InvalidKey", "NoSuchColumn")]
        wanted += [(mode, "begin", name) for mode in MODES for name in (None, "InvalidName", "NameTaken")]
        wanted += [(mode, "keep", name) for mode in MODES for name in (None, "NameTaken")]
        self.assertEqual([kind for kind in wanted if counts[kind] < 1], [])

    def test_all_orders_of_works_that_are_begun_together(self):
        """Three works with one snapshot, committed in each order, and then each of the commits undone."""
        seen = collections.Counter()
        for seed in range(600, 606):
            chance = random.Random(seed)
            rules, store, sight = chance.sample(RULES, chance.choice([0, 1, 3])), random_store(chance), chance.choice(SIGHTS)
            told = [deed for deed in random_deeds(chance, 30, False) if deed[0] in ("hear", "write")]
            deeds = [("begin", name) for name in NAMES[:3]] + [(word, chance.choice(NAMES[:3]), *rest) for word, _, *rest in told]
            for mode, order in itertools.product(MODES, itertools.permutations(NAMES[:3])):
                for lost in (None, *order):
                    real, plain = Real(Desk(SHOP, rules, store, sight=sight, mode=mode)), Plain(rules, store, sight, mode)
                    listed = [*deeds, *[("commit", name) for name in order]] + ([] if lost is None else [("undo", lost)])
                    outcomes = []
                    for deed in listed:
                        outcomes.append(plain.do(*deed))
                        self.assertEqual(real.do(*deed), outcomes[-1])
                    self.check_same(real, plain)
                    self.assertEqual(real.desk.serial(), plain.serial())
                    seen.update(outcome[0].__name__ for outcome in outcomes if isinstance(outcome, tuple) and outcome and isinstance(outcome[0], type))
        self.assertGreater(min(seen[name] for name in ("Overtaken", "Broken", "Ringed", "Unmatched", "NoSuchName")), 0)


def scene(seed, mode, rules, many=25):
    """A desk and a desk told by words, with random deeds to be done on them."""
    chance = random.Random(seed)
    store, sight, deeds = random_store(chance), chance.choice(SIGHTS), random_deeds(chance, many, False)
    return Real(Desk(SHOP, rules, store, sight=sight, mode=mode)), Plain(rules, store, sight, mode), deeds


def desk_after(seed, mode):
    """A desk after random deeds, with no work open."""
    real, _, deeds = scene(seed, mode, RULES)
    for deed in deeds:
        real.do(*deed)
    for work in real.desk.open_works():
        work.drop()
    return real.desk


def after_deeds(seed, mode, rules=RULES):
    """A desk after random deeds, with the desk told by words, and what came of each deed."""
    real, plain, deeds = scene(seed, mode, rules)
    outcomes = []
    for deed in deeds:
        outcomes.append((deed, real.do(*deed)))
        plain.do(*deed)
    for work in real.desk.open_works():
        work.drop()
    return real.desk, plain, outcomes


class Serial(KeptCase):
    def test_all_asks_are_told_the_same_one_behind_another(self):
        """Point 105, under the desk's sight and under others."""
        turned = collections.Counter()
        for seed, mode in [(seed, mode) for seed in range(200, 260) for mode in MODES]:
            desk, plain, _ = after_deeds(seed, mode)
            history, log, names = desk.as_history(), desk.as_log(), desk.names
            order = [names.index(name) + 1 for name in desk.serial()]
            self.assertEqual(sorted(order), list(range(1, len(names) + 1)))
            turned[mode] += order != sorted(order)
            store = desk.at(0)
            for entry in order:
                transaction, work = history.transactions[entry - 1], plain.commits[entry - 1]
                for sight in (desk.sight, *SIGHTS, Sight([], [("item", "odd", (2,))])):
                    self.assertEqual(transaction.hearing(store, sight), transaction.hearing(desk.at(history.seen[entry - 1]), sight))
                if mode == "areas":
                    store = transaction.effect(store, work.choices)
                else:
                    store = carried(log.layers[entry - 1], store)
            self.assertEqual(store, desk.newest)
        self.assertGreater(min(turned[mode] for mode in MODES), 4)

    def test_the_history_and_the_log(self):
        """Point 104: in the mode "areas" the versions are those of the run of the history."""
        for seed in range(300, 330):
            desk, plain, _ = after_deeds(seed, "areas")
            history = desk.as_history()
            self.assertEqual((type(history), type(desk.as_log())), (History, Log))
            done = run(history, desk.at(0), desk.sight, [Fixed(work.choices) for work in plain.commits])
            self.assertEqual(list(done.stores), [desk.at(number) for number in range(desk.version + 1)])
            log, other = log_of(history, done), desk.as_log()
            self.assertEqual((log.layers, log.seen), (other.layers, other.seen))
            for asks, transaction in zip(other.asks, history.transactions):
                self.assertEqual(asks, transaction.all_asks)

    def test_looks_let_in_what_areas_let_in(self):
        """Point 109, first sentence, and that the converse does not hold."""
        seen = set()
        for seed in range(400, 440):
            told = {mode: [] for mode in MODES}
            for mode in MODES:
                real, _, deeds = scene(seed, mode, RULES[seed % 4:], 12)
                told[mode] = [real.do(*deed) for deed in deeds if deed[0] != "undo" or seed % 2]
            let_in = {mode: not any(isinstance(found, tuple) and found and found[0] in REFUSED for found in told[mode]) for mode in MODES}
            seen.add((let_in["areas"], let_in["looks"]))
            if let_in["areas"]:
                self.assertEqual(told["areas"], told["looks"])
        self.assertEqual(seen, {(True, True), (False, True), (False, False)})


class UndoneAgain(KeptCase):
    def done_without(self, plain, name, store, sight, mode, kept):
        """A desk of the same beginning on which a commit was never done, with the answers that the others got."""
        real = Real(Desk(SHOP, RULES, store, sight=sight, mode=mode))
        for word, question in kept:
            real.desk.keep(word, question)
        works = [work for work in plain.commits if work.name != name]
        lost = [work.name for work in plain.commits].index(name) + 1
        seen = [work.seen - (lost <= work.seen) for work in works]
        answers = {}
        for version, work in enumerate(works):
            for other, number in zip(works, seen):
                if number == version:
                    real.do("begin", other.name)
                    answers[other.name] = [real.do(*deed) for deed in plain.deeds_of(other)]
            self.assertEqual(real.do("commit", work.name), version + 1)
        return real.desk, answers

    def test_as_if_it_had_never_been_done(self):
        """Point 108."""
        counts = collections.Counter()
        for seed, mode in [(seed, mode) for seed in range(500, 522) for mode in MODES]:
            desk, plain, outcomes = after_deeds(seed, mode)
            answers = {}
            for deed, found in outcomes:
                if deed[0] == "begin" and not isinstance(found[0], type):
                    answers[deed[1]] = []
                elif deed[0] in ("hear", "write") and isinstance(found, (int, list, tuple, bool, type(None))) and not (
                        isinstance(found, tuple) and isinstance(found[0], type)):
                    answers[deed[1]].append((deed[0], found))
            kept = [(name, question) for name, (question, _) in plain.kept.items()]
            for name in desk.names:
                other, heard = self.try_undo(seed, mode, name, plain, kept)
                counts[mode, other is not None] += 1
                if other is not None:
                    for work, told in heard.items():
                        listed = answers[work]
                        self.assertEqual(told, [found for word, found in listed if word == "hear"] + [found for word, found in listed if word == "write"])
        self.assertGreater(min(counts[mode, done] for mode in MODES for done in (True, False)), 5)

    def try_undo(self, seed, mode, name, plain, kept):
        """Undo a commit on a desk after the same deeds, and compare it with one on which it was never done."""
        desk = desk_after(seed, mode)
        before = (report(desk), log_parts(desk.as_log()), [desk.at(number) for number in range(desk.version + 1)],
                  [desk.ways(word) for word in desk.kept_names])
        try:
            found = desk.undo(name)
        except (Heard, Unmatched, Broken):
            after = (report(desk), log_parts(desk.as_log()), [desk.at(number) for number in range(desk.version + 1)],
                     [desk.ways(word) for word in desk.kept_names])
            self.assertEqual(before[0], after[0])
            self.assertEqual(before[1][1:], after[1][1:])
            self.assertEqual(before[2:], after[2:])
            return None, None
        self.assertEqual(found, desk.version)
        other, heard = self.done_without(plain, name, desk.at(0), desk.sight, mode, kept)
        self.assertEqual((desk.names, desk.serial(), report(desk)), (other.names, other.serial(), report(other)))
        self.assertEqual([desk.at(number) for number in range(desk.version + 1)], [other.at(number) for number in range(other.version + 1)])
        self.assertEqual((desk.as_history().seen, desk.as_log().seen, desk.as_log().layers),
                         (other.as_history().seen, other.as_log().seen, other.as_log().layers))
        self.assertEqual([[(ask.kind, ask.table, ask.shown) for ask in asks] for asks in desk.as_log().asks],
                         [[(ask.kind, ask.table, ask.shown) for ask in asks] for asks in other.as_log().asks])
        self.assertEqual([len(desk.ways(word)) for word in desk.kept_names], [len(plain.kept[word][1]) + 1 for word in desk.kept_names])
        return other, heard


def begun(desk, name, asks=(), cells=()):
    """A work that has asked questions and written cells of accounts."""
    work = desk.begin(name)
    for question in asks:
        work.hear(question)
    for key, column, content in cells:
        work.set_cell("acct", key, column, content)
    return work


def accounts(mode, rules=(), many=4):
    rows = [("acct", key, (10 * key, 0)) for key in range(1, many + 1)]
    return Desk(ACCT, rules, Store(ACCT, rows), mode=mode)


class Desks(KeptCase):
    def test_attributes(self):
        store, sight = Store(SHOP, [("item", 1, (1, 0))]), Sight([("item", "odd")])
        for rules in (RULES, tuple(RULES), []):
            for mode in MODES:
                desk = Desk(SHOP, rules, store, sight=sight, mode=mode)
                self.assertEqual((desk.schema, desk.rules, desk.sight, desk.mode), (SHOP, tuple(rules), sight, mode))
                self.assertEqual((desk.version, desk.newest, desk.names, desk.kept_names, desk.open_works()), (0, store, [], [], []))
                self.assertEqual((desk.serial(), desk.as_history().size, desk.as_log().size), ([], 0, 0))
        desk = Desk(SHOP, [], store)
        self.assertEqual((desk.mode, type(desk.sight), desk.sight.holds(("item", "odd", (1,)))), ("areas", Sight, False))

    def test_invalid_mode_and_broken_rules(self):
        broken = Store(SHOP, [("item", 1, (1, 0)), ("item", 2, (1, 0)), ("sale", 1, (5,))])
        for mode in ("", "Areas", "look", None, *NO_CONTENTS):
            self.assert_error(InvalidMode, {"mode": mode}, Desk, SHOP, RULES, broken, mode=mode)
        for mode in MODES:
            self.assert_error(Broken, {"rule": 1}, Desk, SHOP, RULES, broken, mode=mode)
            self.assert_error(Broken, {"rule": 0}, Desk, SHOP, RULES[2:], broken, mode=mode)
        self.assert_error(Broken, {"rule": 0}, Desk, ACCT, [Within(Question(ACCT, "count", "acct"), Span.of(1))], Store(ACCT))
        self.assertEqual(Desk(ACCT, [Within(Question(ACCT, "count", "acct"), Span.of(0))], Store(ACCT)).version, 0)

    def test_worked_example(self):
        shop = Schema([Table("item", Span([(1, None)]), [("price", Span([(0, 99)])), ("left", Span([(0, 9)]))])])
        desk = Desk(shop, [], Store(shop, [("item", 1, (5, 3)), ("item", 2, (7, 0))]), mode="looks")
        total = Question(shop, "sum", "item", ["price"])
        first = desk.keep("total", total)
        move, count = desk.begin("move"), desk.begin("count")
        heard = [move.hear(Question(shop, "rows", "item", ["left"])), count.hear(total)]
        written = [move.set_cell("item", 1, "price", 6), move.set_cell("item", 2, "price", 6), count.set_cell("item", 1, "left", 4)]
        told = [first, heard, written, move.commit(), count.commit(), desk.serial(), desk.ways("total"), list(desk.newest)]
        self.assertEqual(told, [12, [[(0,), (3,)], 12], [[(5,)], [(7,)], [(3,)]], 1, 2, ["move", "count"], ["blank", "missed"],
                                [("item", 1, (6, 4)), ("item", 2, (6, 0))]])

    def test_versions(self):
        desk = accounts("areas")
        begun(desk, "one", [], [(1, "cents", 5)]).commit()
        begun(desk, "two").commit()
        self.assertEqual([desk.at(number).row("acct", 1) for number in range(3)], [(10, 0), (5, 0), (5, 0)])
        self.assertEqual((desk.version, desk.names, desk.as_history().seen, desk.as_log().seen), (2, ["one", "two"], (0, 1), (0, 1)))
        self.assertEqual((desk.at(1), desk.at(2)), (desk.newest, desk.newest))
        for wrong in (-1, 3, 10 ** 12, None, *NO_CONTENTS):
            self.assert_error(NoSuchVersion, {"number": wrong}, desk.at, wrong)

    def test_begin(self):
        desk = accounts("areas")
        for wrong in ("", "One", "1a", "a" * 13, "a b", None, *NO_CONTENTS, 5):
            self.assert_error(InvalidName, {"name": wrong}, desk.begin, wrong)
        one, key = desk.begin("one"), desk.begin("key")
        self.assertEqual(desk.open_works(), [one, key])
        self.assert_error(NameTaken, {"name": "one"}, desk.begin, "one")
        one.commit()
        self.assert_error(NameTaken, {"name": "one"}, desk.begin, "one")
        key.drop()
        again = desk.begin("key")
        self.assertEqual((desk.open_works(), again.seen, key.seen), ([again], 1, 0))
        again.drop()
        desk.undo("one")
        self.assertEqual((desk.begin("one").seen, desk.begin("there").name), (0, "there"))

    def test_order_of_open_works(self):
        desk = accounts("looks")
        works = [desk.begin(name) for name in ("one", "two", "three", "four")]
        works[1].commit()
        works.append(desk.begin("five"))
        works[0].drop()
        self.assertEqual(desk.open_works(), [works[2], works[3], works[4]])
        self.assert_error(Busy, {"name": "three"}, desk.undo, "two")
        desk.open_works().clear()
        self.assertEqual(len(desk.open_works()), 3)

    def test_keep(self):
        desk = accounts("areas")
        self.assertEqual((desk.keep("total", TOTAL), desk.keep("limits", LIMITS)), (100, [(0,)] * 4))
        for wrong in ("", "One", "1a", "a" * 13, None, *NO_CONTENTS, 5):
            self.assert_error(InvalidName, {"name": wrong}, desk.keep, wrong, TOTAL)
        self.assert_error(NameTaken, {"name": "total"}, desk.keep, "total", LIMITS)
        for wrong in ("", "none", "one", None, *NO_CONTENTS):
            self.assert_error(NoSuchName, {"name": wrong}, desk.kept, wrong)
            self.assert_error(NoSuchName, {"name": wrong}, desk.ways, wrong)
        begun(desk, "total", [], [(1, "limit", 3)]).commit()
        self.assertEqual((desk.kept("total"), desk.kept("limits"), desk.kept_names), (100, [(0,), (0,), (0,), (3,)], ["total", "limits"]))
        self.assertEqual((desk.ways("total"), desk.ways("limits")), (["missed"], ["mended"]))
        desk.keep("late", TOTAL)
        self.assertEqual((desk.ways("late"), desk.kept_names), ([], ["total", "limits", "late"]))

    def test_lists_are_new(self):
        desk = accounts("looks")
        desk.keep("limits", LIMITS).append("more")
        begun(desk, "one", [], [(1, "cents", 3)]).commit()
        for call in (lambda: desk.kept("limits"), lambda: desk.ways("limits"), lambda: desk.names, lambda: desk.kept_names, desk.serial,
                     desk.open_works):
            before = call()
            self.assertIs(type(before), list)
            call().append("more")
            self.assertEqual(call(), before)

    def test_a_commit_that_writes_nothing(self):
        for mode in MODES:
            desk = accounts(mode)
            desk.keep("total", TOTAL)
            desk.keep("limits", LIMITS)
            self.assertEqual([begun(desk, name, [TOTAL]).commit() for name in ("one", "two")], [1, 2])
            work = desk.begin("three")
            work.set_cell("acct", 9, "cents", 5)
            self.assertEqual((work.as_layer(), work.commit()), (Layer(ACCT), 3))
            self.assertEqual((desk.newest, desk.serial(), desk.ways("total")), (desk.at(0), ["one", "two", "three"], ["missed"] * 3))
            self.assertEqual([desk.undo(name) for name in ("one", "three", "two")], [2, 1, 0])
            self.assertEqual((desk.kept("total"), desk.ways("limits")), (100, ["missed"] * 6))

    def test_overtaken(self):
        for mode in MODES:
            desk = accounts(mode, [Within(Question(ACCT, "count", "acct"), Span([(0, 5)]))])
            works = [begun(desk, name, [], [(1, "cents", 5)]) for name in ("one", "two")]
            row, beside = desk.begin("row"), desk.begin("beside")
            row.put_row("acct", 1, None)
            beside.set_cell("acct", 1, "limit", 7)
            self.assertEqual(works[0].commit(), 1)
            self.assert_error(Overtaken, {"cell": ("acct", 1, "cents")}, works[1].commit)
            self.assert_error(Overtaken, {"cell": ("acct", 1, "cents")}, row.commit)
            self.assertEqual([works[1].over, row.over, desk.version], [True, True, 1])
            self.assertEqual((beside.commit(), desk.newest.row("acct", 1)), (2, (5, 7)))

    def test_the_same_content_is_no_layer(self):
        """Who writes what is there already has an empty layer, and a hearing ask all the same."""
        desks = {mode: accounts(mode) for mode in MODES}
        for mode, desk in desks.items():
            works = [begun(desk, "one", [], [(1, "cents", 10)]), begun(desk, "two", [], [(1, "cents", 5)])]
            works[1].commit()
            self.assertEqual(works[0].as_layer(), Layer(ACCT))
            if mode == "areas":
                self.assert_error(Ringed, {"ring_names": ("two", "one")}, works[0].commit)
            else:
                self.assertEqual((works[0].commit(), desk.serial()), (2, ["one", "two"]))

    def test_broken(self):
        rules = [Within(Question(ACCT, "count", "acct", where=CellIn("cents", Span([(50, None)]))), Span([(0, 2)])), Unique(ACCT, "acct", "cents")]
        for mode in MODES:
            desk = accounts(mode, rules)
            works = [begun(desk, name, [], [(key, "cents", 50 + key)]) for name, key in (("one", 1), ("two", 2), ("three", 3))]
            self.assertEqual([work.commit() for work in works[:2]], [1, 2])
            self.assert_error(Broken, {"rule": 0}, works[2].commit)
            self.assert_error(Broken, {"rule": 1}, begun(desk, "four", [], [(3, "cents", 40)]).commit)
            self.assertEqual((desk.version, desk.names, works[2].over), (2, ["one", "two"], True))

    def test_order_of_refusals(self):
        """Overtaken comes ahead of Broken, and Broken ahead of Ringed and Unmatched."""
        rules = [Within(Question(ACCT, "count", "acct", where=CellIn("limit", Span.of(1))), Span([(0, 1)]))]
        for mode in MODES:
            desk = accounts(mode, rules)
            one = begun(desk, "one", [LIMITS], [(1, "limit", 1)])
            both = begun(desk, "both", [LIMITS], [(1, "limit", 2), (2, "limit", 1), (3, "limit", 1)])
            two, three = [begun(desk, name, [LIMITS], [(2, "limit", content)]) for name, content in (("two", 1), ("three", 5))]
            one.commit()
            self.assert_error(Overtaken, {"cell": ("acct", 1, "limit")}, both.commit)
            self.assert_error(Broken, {"rule": 0}, two.commit)
            if mode == "areas":
                self.assert_error(Ringed, {"ring_names": ("one", "three")}, three.commit)
            else:
                self.assert_error(Unmatched, {"name": "three"}, three.commit)
            self.assertEqual((desk.version, desk.open_works()), (1, []))

    def test_ringed(self):
        """Three works, of which each has heard what the next one writes; the ring begins with its least entry."""
        desk = accounts("areas")
        works = []
        for name, read, write in (("one", 2, 1), ("two", 3, 2), ("three", 1, 3)):
            question = Question(ACCT, "sum", "acct", ["cents"], where=KeyIn(Span.of(read)))
            works.append(begun(desk, name, [question], [(write, "cents", 7)]))
        self.assertEqual([work.commit() for work in works[:2]], [1, 2])
        self.assertEqual(desk.serial(), ["one", "two"])
        self.assert_error(Ringed, {"ring_names": ("one", "two", "three")}, works[2].commit)
        self.assertEqual((desk.version, desk.names, works[2].over), (2, ["one", "two"], True))

    def test_looks_see_less_than_areas(self):
        """Two transfers leave the total as it is, so those who have heard it come in any order."""
        for mode in MODES:
            desk = accounts(mode)
            one = begun(desk, "one", [TOTAL], [(1, "cents", 5), (2, "cents", 25)])
            two = begun(desk, "two", [TOTAL], [(3, "cents", 0), (4, "cents", 70)])
            one.commit()
            if mode == "areas":
                self.assert_error(Ringed, {"ring_names": ("one", "two")}, two.commit)
            else:
                self.assertEqual((two.commit(), desk.serial(), answer(TOTAL, desk.newest, Sight())), (2, ["one", "two"], 100))

    def test_serial_order_is_not_that_of_versions(self):
        for mode in MODES:
            desk = accounts(mode)
            put = begun(desk, "put", [], [(1, "cents", 11)])
            count = begun(desk, "count", [TOTAL], [(1, "limit", 3)])
            self.assertEqual((put.commit(), count.commit()), (1, 2))
            self.assertEqual((desk.names, desk.serial()), (["put", "count"], ["count", "put"]))
            desk.undo("put")
            self.assertEqual((desk.names, desk.serial(), desk.as_history().seen), (["count"], ["count"], (0,)))

    def test_undo_of_no_commit(self):
        desk = accounts("looks")
        begun(desk, "one", [], [(1, "cents", 5)]).commit()
        work = begun(desk, "two", [], [(1, "cents", 6)])
        for wrong in ("", "two", "none", None, *NO_CONTENTS, 1):
            self.assert_error(NoSuchName, {"name": wrong}, desk.undo, wrong)
        self.assert_error(Busy, {"name": "two"}, desk.undo, "one")
        work.drop()
        self.assertEqual((desk.undo("one"), desk.newest), (0, desk.at(0)))
        self.assert_error(NoSuchName, {"name": "one"}, desk.undo, "one")

    def test_undo_of_what_was_heard(self):
        for mode in MODES:
            desk = accounts(mode)
            begun(desk, "one", [], [(1, "cents", 5)]).commit()
            begun(desk, "two", [], [(2, "limit", 5)]).commit()
            begun(desk, "three", [LIMITS]).commit()
            begun(desk, "four", [TOTAL]).commit()
            begun(desk, "five", [TOTAL]).commit()
            self.assert_error(Heard, {"name": "four"}, desk.undo, "one")
            self.assert_error(Heard, {"name": "three"}, desk.undo, "two")
            self.assertEqual((desk.version, desk.newest.row("acct", 1)), (5, (5, 0)))
            self.assertEqual((desk.undo("four"), desk.undo("five"), desk.undo("one")), (4, 3, 2))
            self.assertEqual((desk.names, desk.as_history().seen, desk.newest.row("acct", 1)), (["two", "three"], (0, 1), (10, 0)))
            self.assertEqual([desk.at(number).row("acct", 2) for number in range(3)], [(20, 0), (20, 5), (20, 5)])

    def test_undo_of_what_was_heard_but_not_seen(self):
        """In the mode "looks" a commit that others cannot tell from none can be undone."""
        transfer = [(1, "cents", 5), (2, "cents", 25)]
        for mode in MODES:
            desk = accounts(mode)
            begun(desk, "one", [], transfer).commit()
            begun(desk, "two", [TOTAL], [(3, "limit", 1)]).commit()
            if mode == "areas":
                self.assert_error(Heard, {"name": "two"}, desk.undo, "one")
            else:
                self.assertEqual((desk.undo("one"), desk.names, desk.newest.row("acct", 2)), (1, ["two"], (20, 0)))

    def test_undo_that_leaves_no_matching_order(self):
        """One commit hides from the reader what the writer does, who has in turn heard what the reader does."""
        near = Question(ACCT, "sum", "acct", ["cents"], where=KeyIn(Span.of(1)) & CellIn("limit", Span.of(0)))
        far = Question(ACCT, "sum", "acct", ["cents"], where=KeyIn(Span.of(2)))
        for more in ([], ["more"], ["more", "most"]):
            desk = Desk(ACCT, [], Store(ACCT, [("acct", 1, (0, 0)), ("acct", 2, (0, 0))]), mode="looks")
            works = [begun(desk, "hide", [], [(1, "limit", 1)]), begun(desk, "writer", [far], [(1, "cents", 5)]),
                     begun(desk, "reader", [near], [(2, "cents", 7)])]
            works += [begun(desk, name, [], [(3, "cents", 7)]) for name in more]
            for work in works:
                work.commit()
            self.assertEqual(desk.serial(), ["hide", "writer", "reader", *more])
            self.assert_error(Unmatched, {"name": "reader"}, desk.undo, "hide")
            self.assertEqual((desk.version, desk.names[0], desk.newest.row("acct", 1)), (3 + len(more), "hide", (5, 1)))
            self.assertEqual((desk.undo("writer"), desk.undo("hide"), desk.newest.row("acct", 1)), (2 + len(more), 1 + len(more), (0, 0)))

    def test_undo_that_would_break_a_rule(self):
        sales = Schema([Table("item", Span([(1, 9)]), [("price", Span([(0, 99)]))]), Table("sale", Span([(1, 9)]), [("of", Span.read("none, 1..50"))])])
        rules = [Unique(sales, "sale", "of"), Refers(sales, "sale", "of", "item"), Within(Question(sales, "count", "item"), Span([(0, 2)]))]
        for mode in MODES:
            desk = Desk(sales, rules, Store(sales), mode=mode)
            for name, table, key, row in (("item", "item", 4, (7,)), ("sale", "sale", 1, (4,)), ("more", "item", 5, (8,))):
                work = desk.begin(name)
                work.put_row(table, key, row)
                work.commit()
            self.assert_error(Broken, {"rule": 1}, desk.undo, "item")
            with desk.begin("again") as work:
                work.put_row("item", 5, None)
                work.commit()
            with desk.begin("third") as work:
                work.put_row("item", 6, (1,))
                work.commit()
            self.assertEqual(desk.version, 5)
            # Without "sale" nothing refers to the item any more.
            self.assertEqual((desk.undo("sale"), desk.undo("item"), desk.names), (4, 3, ["more", "again", "third"]))

    def test_the_first_version_without_it_that_breaks_a_rule(self):
        rules = [Within(Question(ACCT, "count", "acct", where=CellIn("limit", Span.of(1))), Span([(0, 1)])), Unique(ACCT, "acct", "cents")]
        for mode in MODES:
            desk = Desk(ACCT, rules, Store(ACCT, [("acct", 1, (10, 0)), ("acct", 2, (20, 1)), ("acct", 3, (30, 0))]), mode=mode)
            for name, cells in (("away", [(1, "cents", 99), (2, "limit", 0)]), ("in", [(3, "cents", 10)]), ("one", [(3, "limit", 1)])):
                begun(desk, name, [], cells).commit()
            self.assert_error(Broken, {"rule": 1}, desk.undo, "away")
            self.assertEqual((desk.names, desk.version), (["away", "in", "one"], 3))

    def test_works_keep_their_snapshot_behind_an_undo(self):
        desk = accounts("areas")
        begun(desk, "one", [], [(1, "cents", 5)]).commit()
        work = begun(desk, "two", [], [(1, "limit", 4)])
        work.commit()
        desk.undo("one")
        self.assertEqual((work.seen, work.name, work.over), (1, "two", True))
        self.assertEqual(list(work.as_layer()), [("acct", 1, (5, 0), (5, 4))])
        self.assertEqual((desk.as_history().seen, desk.newest.row("acct", 1)), ((0,), (10, 4)))
        self.assertEqual(list(desk.as_log().layers[0]), [("acct", 1, (10, 0), (10, 4))])

    def test_near_the_limits(self):
        """Seven commits that all began at the same time, with wide questions and large stores."""
        schema = Schema([Table(f"t{at}", Span([(1, None)]), [(name, Span.everything()) for name in "wxyz"], [("odd", ["w"]), ("low", ["x", "y"])])
                         for at in range(4)])
        store = Store(schema, [("t0", key, (key, 0, None, 1)) for key in range(1, 41)])
        where = KeyIn(Span([(1, 30)])) & (CellIn("w", Span([(3, 20)])) | ~CellIn("x", Span.of(5))) & CellIn("z", Span.of(1, 2))
        asks = [Question(schema, kind, "t0", shown, where=where) for kind, shown in
                (("sum", ["w"]), ("least", ["w"]), ("some", []), ("first", ["key"]), ("count", []), ("rows", ["w"]))]
        rules = [Within(Question(schema, "count", "t0", where=where), Span([(0, 20)])), Unique(schema, "t0", "w"), Refers(schema, "t1", "w", "t0")]
        rules[0] = Within(Question(schema, "count", "t0", where=where), Span([(20, None)]))
        for mode in MODES:
            desk = Desk(schema, rules, store, mode=mode)
            for at, question in enumerate(asks):
                desk.keep(f"k{at}", question)
            works = [desk.begin(f"w{at}") for at in range(7)]
            for at, work in enumerate(works):
                for question in asks:
                    work.hear(question)
                for key in range(at + 31, at + 32):
                    work.put_row("t0", key, (key + 100, 0, None, 1))
                work.put_row("t1", at + 1, (at + 1, None, None, None))
                work.sweep("t2", Span([(None, 10)]) - Span([(1, 10)]), "x", 5)
            self.assertEqual([work.commit() for work in works], [1, 2, 3, 4, 5, 6, 7])
            self.assertEqual(desk.serial(), [f"w{at}" for at in range(7)])
            self.assertEqual(desk.undo("w3"), 6)
            self.assertEqual([desk.kept(f"k{at}") for at in range(6)], [answer(question, desk.newest, Sight()) for question in asks])
