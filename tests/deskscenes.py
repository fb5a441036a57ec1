"""A desk told by words, with random things to do on it, which tests compare with the desk of the package."""

import itertools

from helpers import answer_by_words
from keptbase.bringing import brought
from keptbase.carrying import carried, carried_run
from keptbase.conditions import CellIn, KeyIn, Unseen
from keptbase.errors import InvalidChoice, InvalidName, KeptError
from keptbase.footprints import footprint
from keptbase.graphs import edges, graph_of
from keptbase.grips import layer_area, unseated
from keptbase.histories import History
from keptbase.layers import between
from keptbase.logs import Log
from keptbase.looks import look
from keptbase.matching import is_matching, matching_orders
from keptbase.mending import mended
from keptbase.orders import keeps
from keptbase.questions import Question
from keptbase.refusals import Broken, Busy, Heard, NameTaken, NoSuchName, Over, Overtaken, Ringed, Unmatched
from keptbase.rules import Refers, Unique, Within
from keptbase.schema import Schema, Table
from keptbase.sights import Sight
from keptbase.spans import Span
from keptbase.stores import Store
from keptbase.taking import taking_misfit
from keptbase.transactions import Transaction
from keptbase.writes import PutRow, SetCell, Sweep

SHOP = Schema([Table("item", Span([(1, 4)]), [("price", Span([(0, 2)])), ("left", Span.read("none, 0..2"))], [("odd", ["price"])]),
               Table("sale", Span.of(1, 2), [("of", Span.read("none, 1..5"))])])
SIGHTS = [Sight(), Sight([("item", "odd")], [("item", "odd", (0,))])]


def asked():
    """Questions of all kinds."""
    odd, few, dear, some = Unseen("odd"), CellIn("left", Span([(0, 1)])), CellIn("price", Span([(1, None)])), KeyIn(Span([(2, 3)]))
    listed = [("sum", ["price"], None), ("count", [], dear), ("some", [], few & dear), ("least", ["left"], None), ("greatest", ["price"], odd),
              ("first", ["left"], dear), ("rows", ["key", "left"], some), ("rows", ["price"], None), ("sum", ["left"], some | odd),
              ("some", [], KeyIn(Span.of(4))), ("rows", ["left"], KeyIn(Span.of(1)))]
    found = [Question(SHOP, kind, "item", shown, where=where) for kind, shown, where in listed]
    return found + [Question(SHOP, "rows", "sale", ["of"]), Question(SHOP, "some", "sale", where=CellIn("of", Span.of(None, 3)))]


QUESTIONS = asked()
RULES = [Within(Question(SHOP, "count", "item", where=CellIn("price", Span.of(2))), Span([(0, 2)])), Unique(SHOP, "item", "left"),
         Refers(SHOP, "sale", "of", "item")]
NAMES = ["ann", "bob", "cid", "dan", "eve", "fay", "guy", "hal"]


def random_store(chance):
    """A store that keeps all rules, for it has no left twice and no sale."""
    lefts = chance.sample([None, None, 0, 1, 2], 4)
    return Store(SHOP, [("item", key, (chance.randint(0, 1), left)) for key, left in enumerate(lefts, start=1) if chance.random() < 0.8])


def random_write(chance, wrong):
    """A write with its content, seldom one that cannot be made."""
    if wrong and chance.random() < 0.08:
        return chance.choice([(SetCell("none", 1, "left"), 1), (SetCell("item", 9, "none"), 1), (SetCell("item", 2, "none"), 1), (PutRow("item", 0), None),
                              (SetCell("item", 2, "left"), 3), (PutRow("item", 2), (1,)), (Sweep("item", Span.of(2), "none"), 0),
                              (Sweep("item", Span(), "left"), True), (SetCell("item", 1, "price"), None)])
    kind, key = chance.random(), chance.choice([1, 1, 2, 3, 4])
    if kind < 0.5:
        column = chance.choice(["price", "left", "left"])
        return (SetCell("item", key, column), chance.randint(0, 2))
    if kind < 0.65:
        return (PutRow("item", key), chance.choice([None, (0, None), (1, 2), (2, 0)]))
    if kind < 0.8:
        return (Sweep("item", chance.choice([Span.of(key), Span([(3, None)]), Span()]), chance.choice(["price", "left"])), chance.choice([0, 1]))
    return (PutRow("sale", chance.randint(1, 2)), chance.choice([None, (None,), (key,)]))


def random_deeds(chance, many, wrong=True):
    """Random things to do on a desk, as tuples of a word and what it needs."""
    found = []
    for name in chance.sample(NAMES[:3], 2):
        found.append(("keep", name, chance.choice(QUESTIONS)))
    live = []
    if chance.random() < 0.8:
        # Two works that hear of what the other one writes.
        two, keys = chance.sample(NAMES, 2), chance.choices([1, 2, 3], k=2)
        questions, columns = chance.choices(QUESTIONS[:8], k=2), chance.choices(["price", "left"], k=2)
        if chance.random() < 0.5:
            questions, columns = [QUESTIONS[7], chance.choice([QUESTIONS[0], QUESTIONS[7]])], ["price", "price"]
        found += [("begin", name) for name in two] + [("hear", name, question) for name, question in zip(two, questions)]
        found += [("write", name, SetCell("item", key, column), chance.choice([0, 2, 2])) for name, key, column in zip(two, keys, columns)]
        found += [("commit", name) for name in two]
    for _ in range(many):
        fresh = [name for name in NAMES if name not in live]
        kind = chance.random()
        if not live or (kind < 0.2 and len(live) < 3):
            name = chance.choice(fresh if fresh and chance.random() < 0.95 else NAMES)
            found.append(("begin", name))
            live.append(name)
        elif kind < 0.4:
            found.append(("hear", chance.choice(live), chance.choice(QUESTIONS)))
        elif kind < 0.68:
            found.append(("write", chance.choice(live), *random_write(chance, wrong)))
        elif kind < 0.94:
            name = chance.choice(live)
            found.append((chance.choice(["commit"] * 12 + ["drop"]), name))
            if chance.random() < 0.97:
                live.remove(name)
            if not live and chance.random() < 0.3:
                found.append(("undo", chance.choice(NAMES)))
        else:
            found.append(chance.choice([("undo", chance.choice(NAMES)), ("keep", chance.choice(NAMES[:4]), chance.choice(QUESTIONS)), ("begin", "Ann")]))
    return found


def outcome(call):
    """What a call returns, or its error as a tuple of the class and its attributes."""
    try:
        return call()
    except KeptError as error:
        return (type(error), *vars(error).values())


class Real:
    """Does things on a desk of the package."""

    def __init__(self, desk):
        self.desk = desk
        self.works = {}

    def do(self, word, name, *told):
        if word == "begin":
            found = outcome(lambda: self.desk.begin(name))
            if not isinstance(found, tuple):
                self.works[name] = found
                return (found.name, found.seen, found.over)
            return found
        if word in ("undo", "keep"):
            return outcome(lambda: getattr(self.desk, word)(name, *told))
        work = self.works.get(name)
        if work is None:
            return "no such work"
        if word == "write":
            write, content = told
            if isinstance(write, SetCell):
                return outcome(lambda: work.set_cell(write.table, write.key, write.column, content))
            if isinstance(write, PutRow):
                return outcome(lambda: work.put_row(write.table, write.key, content))
            return outcome(lambda: work.sweep(write.table, write.span, write.column, content))
        return outcome(lambda: getattr(work, word)(*told))


class PlainWork:
    def __init__(self, name, seen, snapshot):
        self.name, self.seen, self.snapshot, self.over = name, seen, snapshot, False
        self.asks, self.writes, self.choices = [], [], []

    def transaction(self):
        return Transaction(SHOP, self.asks, self.writes)

    def layer(self):
        return between(self.snapshot, self.transaction().effect(self.snapshot, self.choices))


class Plain:
    """A desk told straight from points 101 to 107, by trying all orders."""

    def __init__(self, rules, store, sight, mode):
        self.rules, self.sight, self.mode = rules, sight, mode
        self.stores, self.commits, self.works, self.kept = [store], [], {}, {}

    def do(self, word, name, *told):
        if word in ("begin", "undo", "keep"):
            return outcome(lambda: getattr(self, word)(name, *told))
        work = self.works.get(name)
        if work is None:
            return "no such work"
        return outcome(lambda: getattr(self, word)(work, *told))

    def open_works(self):
        return [work for work in self.works.values() if not work.over]

    def names(self):
        return [work.name for work in self.commits]

    def begin(self, name):
        if name not in NAMES:
            raise InvalidName(name)
        if name in self.names() or name in [work.name for work in self.open_works()]:
            raise NameTaken(name)
        self.works.pop(name, None)
        self.works[name] = PlainWork(name, len(self.stores) - 1, self.stores[-1])
        return (name, len(self.stores) - 1, False)

    def hear(self, work, question):
        if work.over:
            raise Over(work.name)
        work.asks.append(question)
        return answer_by_words(question, work.snapshot, self.sight)

    def write(self, work, write, content):
        if work.over:
            raise Over(work.name)
        choice = (content, []) if isinstance(write, Sweep) else content
        alone = Transaction(SHOP, [], [write])
        try:
            alone.effect(Store(SHOP), [choice])
        except InvalidChoice:
            raise InvalidChoice(len(work.writes)) from None
        Transaction(SHOP, [], [*work.writes, write])
        work.writes.append(write)
        work.choices.append(choice)
        return answer_by_words(alone.all_asks[0], work.snapshot, self.sight)

    def drop(self, work):
        work.over = True

    def commit(self, work):
        if work.over:
            raise Over(work.name)
        work.over = True
        newest = self.stores[-1]
        if unseated(work.layer(), newest) is not None:
            raise Overtaken(unseated(work.layer(), newest))
        store = carried(work.layer(), newest)
        self.check_rules(store)
        names = [*self.names(), work.name]
        if self.mode == "areas":
            ring = graph_of(self.history([*self.commits, work])).ring()
            if ring is not None:
                raise Ringed(tuple(names[entry - 1] for entry in ring))
        elif not self.matching(self.log([*self.commits, work], [*self.stores, store])):
            raise Unmatched(work.name)
        self.turn([*self.stores, store], [*self.commits, work])
        return len(self.stores) - 1

    def check_rules(self, store):
        for number, rule in enumerate(self.rules):
            if rule.failure(store) is not None:
                raise Broken(number)

    def history(self, commits):
        return History(SHOP, [(work.transaction(), work.seen) for work in commits])

    def log(self, commits, stores):
        return Log(SHOP, [(work.transaction().all_asks, work.seen, between(*stores[at:at + 2])) for at, work in enumerate(commits)])

    def matching(self, log):
        if log.size > 4:
            return list(matching_orders(log))
        return [list(order) for order in itertools.permutations(range(1, log.size + 1)) if is_matching(log, order)]

    def undo(self, name):
        if name not in self.names():
            raise NoSuchName(name)
        if self.open_works():
            raise Busy(min(self.open_works(), key=list(self.works.values()).index).name)
        number = self.names().index(name) + 1
        log = self.log(self.commits, self.stores)
        left = [at for at in range(1, log.size + 1) if at != number]
        if self.mode == "areas":
            readers = [y for x, y, kind, _ in edges(self.history(self.commits)) if (x, kind) == (number, "heard")]
            if readers:
                raise Heard(self.names()[min(readers) - 1])
        else:
            if taking_misfit(log, number) is not None:
                raise Heard(self.names()[taking_misfit(log, number).entry - 1])
            shorter = log.without(number)
            for many in range(1, shorter.size + 1):
                if not self.matching(Log(SHOP, list(zip(shorter.asks, shorter.seen, shorter.layers))[:many])):
                    raise Unmatched(self.names()[left[many - 1] - 1])
        stores = carried_run([log.layers[at - 1] for at in left], self.stores[0])
        for store in stores:
            self.check_rules(store)
        commits = [self.commits[at - 1] for at in left]
        for work in commits:
            work.seen -= number <= work.seen
        self.turn(stores, commits)
        return len(stores) - 1

    def keep(self, name, question):
        if name not in NAMES:
            raise InvalidName(name)
        if name in self.kept:
            raise NameTaken(name)
        self.kept[name] = (question, [])
        return answer_by_words(question, self.stores[-1], self.sight)

    def turn(self, stores, commits):
        layer = between(self.stores[-1], stores[-1])
        for question, ways in self.kept.values():
            known = answer_by_words(question, self.stores[-1], self.sight)
            ways.append(self.way(question, layer, known))
            expected = answer_by_words(question, stores[-1], self.sight)
            assert brought(question, layer, stores[-1], self.sight, known) == (ways[-1], expected)
        self.stores, self.commits = stores, commits

    def way(self, question, layer, known):
        if not layer_area(layer).meets(footprint(question)):
            return "missed"
        if not look(question, layer):
            return "blank"
        return "mended" if mended(question, layer, self.sight, known) else "read"

    def deeds_of(self, work):
        """What a work has asked and written, as it can be done again."""
        return [("hear", work.name, question) for question in work.asks] + [
            ("write", work.name, write, choice[0] if isinstance(write, Sweep) else choice) for write, choice in zip(work.writes, work.choices)]

    def serial(self):
        if self.mode == "areas":
            graph = graph_of(self.history(self.commits))
            every = [order for order in itertools.permutations(range(1, graph.size + 1)) if keeps(graph, order)]
        else:
            every = self.matching(self.log(self.commits, self.stores))
        return [self.names()[entry - 1] for entry in min(every)]
