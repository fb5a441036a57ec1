"""Point 109: rules and checks with transactions, histories and works."""

import random

from deskscenes import RULES as SHOP_RULES
from deskscenes import SHOP, random_deeds, random_store
from helpers import KeptCase
from keptbase.checks import checks
from keptbase.choosers import Mixed
from keptbase.desk import Desk
from keptbase.graphs import graph_of
from keptbase.histories import History
from keptbase.jointly import break_together
from keptbase.looks import look
from keptbase.orders import orders
from keptbase.questions import Question
from keptbase.refusals import Ringed, Unmatched
from keptbase.rulefeet import rule_footprint
from keptbase.rules import Refers, Within
from keptbase.running import run, run_in_order
from keptbase.schema import Schema, Table
from keptbase.sights import Sight
from keptbase.spans import Span
from keptbase.stores import Store
from keptbase.transactions import Transaction
from keptbase.verdicts import verdict
from rulescenes import RULES, TINY, kept_by_words, stores_of
from scenes import all_choices, random_transaction, random_writes

TINY_RULES = [rule for rule in RULES if rule.schema is TINY]


def guard_asks(rule):
    """Questions whose footprints have the footprint of a rule."""
    schema = rule.schema
    if isinstance(rule, Within):
        return [Question(schema, "count", rule.question.table, where=rule.question.where)]
    found = [Question(schema, "rows", rule.table, ["key", rule.column])]
    return found + ([Question(schema, "rows", rule.target, ["key"])] if isinstance(rule, Refers) else [])


class RulesOfTransactions(KeptCase):
    def test_effects_keep_a_rule_exactly_if_no_cell_meets_its_footprint(self):
        chance, seen = random.Random(91), set()
        for rule in TINY_RULES:
            kept = [store for store in stores_of(rule) if kept_by_words(rule, store)]
            for _ in range(4):
                transaction = random_transaction(chance)
                if len(all_choices(transaction)) > 25:
                    continue
                meets = transaction.write_area.meets(rule_footprint(rule))
                breaks = any(not kept_by_words(rule, transaction.effect(store, choices)) for store in kept for choices in all_choices(transaction))
                self.assertEqual(breaks, meets)
                seen.add(meets)
        self.assertEqual(seen, {True, False})

    def test_runs_keep_a_rule_that_each_writer_has_asked_for(self):
        chance, kept, orders_seen = random.Random(92), 0, 0
        for _ in range(400):
            rule = chance.choice([rule for rule in TINY_RULES if rule_footprint(rule)])
            entries = []
            for at in range(chance.choice([2, 3])):
                asks = guard_asks(rule) if chance.random() < 0.9 else []
                entries.append((Transaction(TINY, asks, random_writes(chance, chance.choice([1, 1, 2]))), chance.choice([at, chance.randint(0, at)])))
            history = History(TINY, entries)
            foot = rule_footprint(rule)
            writers = [at for at, (transaction, _) in enumerate(entries) if transaction.write_area.meets(foot)]
            if not all(foot.within(entries[at][0].read_area) for at in writers):
                continue
            base = chance.choice([store for store in stores_of(rule) if kept_by_words(rule, store)] or [None])
            if base is None:
                continue
            choosers = [Mixed(chance.randint(-50, 50), chance.randint(-3, 3)) for _ in entries]
            done = run(history, base, Sight(), choosers)
            effects = [entries[at][0].effect(done.stores[history.seen[at]], done.choices[at]) for at in writers]
            if not all(kept_by_words(rule, store) for store in effects):
                continue
            graph = graph_of(history)
            if graph.ring() is None:
                kept += 1
                self.assertTrue(all(kept_by_words(rule, store) for store in done.stores))
            for order in orders(graph):
                orders_seen += 1
                self.assertTrue(all(kept_by_words(rule, store) for store in run_in_order(history, order, base, Sight(), choosers).stores))
        self.assertGreater(min(kept, orders_seen), 50)


class RulesOfWorks(KeptCase):
    def test_two_works_that_ask_all_checks(self):
        """They cannot both be let in if they can break a rule together, whatever the store and whichever is first."""
        chance, together = random.Random(93), 0
        for _ in range(600):
            rule = chance.choice(SHOP_RULES)
            store = random_store(chance)
            desks = [Desk(SHOP, [], store) for _ in range(2)]
            deeds = random_deeds(chance, 12, False)
            pairs = []
            for desk in desks:
                pairs.append([desk.begin("one"), desk.begin("two")])
                for word, name, *told in [deed for deed in deeds if deed[0] == "write"][:4]:
                    self.write(pairs[-1][len(name) % 2 if name != "ann" else 0], *told)
            layers = [work.as_layer() for work in pairs[0]]
            if set(layers[0].places()) & set(layers[1].places()) or break_together(rule, *layers) is None:
                continue
            together += 1
            for desk, works in zip(desks, (pairs[0], pairs[1][::-1])):
                for work in works:
                    for check in checks(rule, work.as_layer()):
                        work.hear(check.question)
                works[0].commit()
                self.assert_error(Ringed, {"ring_names": (works[0].name, works[1].name)}, works[1].commit)
        self.assertGreater(together, 3)

    def write(self, work, write, content):
        """Make a write, if it has no common cell with earlier ones."""
        area = write.written_area(SHOP)
        if any(area.meets(other.written_area(SHOP)) for other in work.as_transaction().writes):
            return
        if hasattr(write, "span"):
            work.sweep(write.table, write.span, write.column, content)
        elif hasattr(write, "column"):
            work.set_cell(write.table, write.key, write.column, content)
        else:
            work.put_row(write.table, write.key, content)

    def test_the_last_place_of_a_count(self):
        """Both modes refuse the second of two works that each add a row and have asked how many there are."""
        schema = Schema([Table("seat", Span([(1, 9)]), [("who", Span([(1, 99)]))])])
        count = Question(schema, "count", "seat")
        rule = Within(count, Span([(0, 3)]))
        for mode, kind, told in (("areas", Ringed, {"ring_names": ("one", "two")}), ("looks", Unmatched, {"name": "two"})):
            for rules in ([], [rule]):
                desk = Desk(schema, rules, Store(schema, [("seat", 1, (5,)), ("seat", 2, (6,))]), mode=mode)
                works = [desk.begin("one"), desk.begin("two")]
                for at, work in enumerate(works):
                    work.put_row("seat", 7 + at, (7,))
                    self.assertEqual(verdict(rule, work.as_layer()), "asks")
                    for check in checks(rule, work.as_layer()):
                        self.assertEqual((work.hear(check.question), check.kept_on(desk.newest)), (2, True))
                self.assertIsNotNone(break_together(rule, works[0].as_layer(), works[1].as_layer()))
                works[0].commit()
                if rules:
                    with self.assertRaises(Exception) as caught:
                        works[1].commit()
                    self.assertEqual(type(caught.exception).__name__, "Broken")
                else:
                    self.assert_error(kind, told, works[1].commit)

    def test_a_work_that_could_have_begun_one_version_later(self):
        chance, blank, changed = random.Random(94), 0, 0
        for _ in range(150):
            desk = Desk(SHOP, [], random_store(chance))
            work, other = desk.begin("ann"), desk.begin("bob")
            deeds = random_deeds(chance, 12, False)
            told = []
            for word, name, *rest in deeds:
                if word == "write":
                    self.write(chance.choice([work, other]), *rest)
                elif word == "hear":
                    told.append(work.hear(rest[0]))
            asks = work.as_transaction().all_asks
            version = other.commit()
            if any(look(question, desk.as_log().layers[0]) for question in asks):
                changed += 1
                continue
            blank += 1
            late = desk.begin("cid")
            self.assertEqual((version, late.seen, [late.hear(question) for question in work.as_transaction().asks]), (1, 1, told))
            transaction = work.as_transaction()
            self.assertEqual(transaction.hearing(desk.at(0), desk.sight), transaction.hearing(desk.at(1), desk.sight))
        self.assertGreater(min(blank, changed), 20)
