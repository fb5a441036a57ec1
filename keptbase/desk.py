"""The desk: works are committed to versions of a store, and commits are undone (points 101 to 109)."""

from keptbase.answers import answer
from keptbase.bringing import brought, copied
from keptbase.carrying import carried, carried_run
from keptbase.errors import InvalidName
from keptbase.graphs import edges, graph_of
from keptbase.grips import unseated
from keptbase.histories import History, is_numbered, seen_among
from keptbase.layers import between
from keptbase.logs import Log
from keptbase.matching import first_matching
from keptbase.orders import first_order
from keptbase.refusals import (Broken, Busy, Heard, InvalidMode, NameTaken, NoSuchName, NoSuchVersion, Overtaken,
                               Ringed, Unmatched)
from keptbase.schema import is_name, is_one_of
from keptbase.sights import Sight
from keptbase.taking import taking_misfit
from keptbase.works import Work

AREAS = "areas"
LOOKS = "looks"


def check_rules(rules, store):
    """Raise an error if a store breaks one of some rules."""
    for number, rule in enumerate(rules):
        if not rule.kept_on(store):
            raise Broken(number)


def check_ring(history, names):
    """Raise an error if a history, whose entries have these names, has a ring."""
    ring = graph_of(history).ring()
    if ring is not None:
        raise Ringed(tuple([names[entry - 1] for entry in ring]))


def check_edges(history, number, names):
    """Raise an error if another entry of a history has heard of this one."""
    readers = sorted([goal for start, goal, kind, _ in edges(history) if start == number and kind == "heard"])
    if readers:
        raise Heard(names[readers[0] - 1])


def check_misfit(log, number, names):
    """Raise an error if an entry cannot be taken out of a log."""
    found = taking_misfit(log, number)
    if found is not None:
        raise Heard(names[found.entry - 1])


def check_beginnings(log, names):
    """Raise an error if some number of first entries of a log has no matching order."""
    entries = list(zip(log.asks, log.seen, log.layers))
    for many in range(1, log.size + 1):
        if first_matching(Log(log.schema, entries[:many])) is None:
            raise Unmatched(names[many - 1])


def without_one(listed, number):
    """Return a list without the member for the entry with a number."""
    return [*listed[:number - 1], *listed[number:]]


class Desk:
    """Versions of a store that keep rules, the commits that made them, and kept answers on the newest one."""

    def __init__(self, schema, rules, store, *, sight=None, mode="areas"):
        if not is_one_of(mode, (AREAS, LOOKS)):
            raise InvalidMode(mode)
        listed = tuple(rules)
        check_rules(listed, store)
        self.schema = schema
        self.rules = listed
        self.sight = Sight() if sight is None else sight
        self.mode = mode
        self._stores = [store]
        # For each commit its name, its transaction and what it has seen.
        self._commits = []
        self._works = []
        # For each name of a kept question this, its answer and the ways in which it was brought on.
        self._questions = {}

    @property
    def version(self):
        """The number of the last version."""
        return len(self._stores) - 1

    @property
    def newest(self):
        """The store of the last version."""
        return self._stores[-1]

    @property
    def names(self):
        """The names of the commits that stand, in the order of versions."""
        return [name for name, _, _ in self._commits]

    @property
    def kept_names(self):
        """The names of the kept questions, in the order in which they were kept."""
        return list(self._questions)

    def at(self, version):
        """Return the store of a version."""
        if not is_numbered(version, 0, self.version):
            raise NoSuchVersion(version)
        return self._stores[version]

    def begin(self, name):
        """Return a new work on the newest version."""
        if not is_name(name):
            raise InvalidName(name)
        works = self.open_works()
        if name in self.names or name in [work.name for work in works]:
            raise NameTaken(name)
        work = Work(self, name, self.version, self.newest)
        self._works = [*works, work]
        return work

    def open_works(self):
        """Return the list of the open works, in the order in which they were begun."""
        return [work for work in self._works if not work.over]

    def keep(self, name, question):
        """Keep a question under a name; return its answer."""
        if not is_name(name):
            raise InvalidName(name)
        if name in self._questions:
            raise NameTaken(name)
        self._questions[name] = (question, answer(question, self.newest, self.sight), ())
        return self.kept(name)

    def kept(self, name):
        """Return the kept answer of a question."""
        return copied(self._kept_entry(name)[1])

    def ways(self, name):
        """Return the list of the ways in which an answer was brought on since it is kept."""
        return list(self._kept_entry(name)[2])

    def let_in(self, work):
        """Make a version of a work that is committed, if nothing speaks against it; return its number."""
        layer = work.as_layer()
        cell = unseated(layer, self.newest)
        if cell is not None:
            raise Overtaken(cell)
        store = carried(layer, self.newest)
        check_rules(self.rules, store)
        transaction = work.as_transaction()
        self._check_turn(work, transaction, store)
        commits = [*self._commits, (work.name, transaction, work.seen)]
        self._turn_to([*self._stores, store], commits)
        return self.version

    def undo(self, name):
        """Take a commit out; return the number of the last version."""
        if not is_one_of(name, self.names):
            raise NoSuchName(name)
        works = self.open_works()
        if works:
            raise Busy(works[0].name)
        number = self.names.index(name) + 1
        self._check_unheard(number)
        stores = carried_run(without_one(self.as_log().layers, number), self._stores[0])
        for store in stores:
            check_rules(self.rules, store)
        self._turn_to(stores, self._commits_without(number))
        return self.version

    def serial(self):
        """Return the list of the names in the serial order."""
        if self.mode == AREAS:
            order = first_order(graph_of(self.as_history()))
        else:
            order = first_matching(self.as_log())
        return [self.names[entry - 1] for entry in order]

    def as_history(self):
        """Return the history of the commits that stand."""
        return History(self.schema, [(transaction, seen) for _, transaction, seen in self._commits])

    def as_log(self):
        """Return the log of the commits that stand."""
        entries = []
        for at, (_, transaction, seen) in enumerate(self._commits):
            entries.append((transaction.all_asks, seen, between(self._stores[at], self._stores[at + 1])))
        return Log(self.schema, entries)

    def _kept_entry(self, name):
        """Return the tuple of a kept question, its answer and its ways."""
        if not is_one_of(name, list(self._questions)):
            raise NoSuchName(name)
        return self._questions[name]

    def _check_turn(self, work, transaction, store):
        """Raise an error if the mode does not let a work in, which would make a store the newest one."""
        if self.mode == AREAS:
            check_ring(self.as_history().with_entry(transaction, work.seen), [*self.names, work.name])
        else:
            log = self.as_log().with_entry(transaction.all_asks, work.seen, between(self.newest, store))
            if first_matching(log) is None:
                raise Unmatched(work.name)

    def _check_unheard(self, number):
        """Raise an error if the mode does not let a commit be taken out."""
        if self.mode == AREAS:
            check_edges(self.as_history(), number, self.names)
        else:
            log = self.as_log()
            check_misfit(log, number, self.names)
            check_beginnings(log.without(number), without_one(self.names, number))

    def _commits_without(self, number):
        """Return the commits but one, each with what it has seen of the others."""
        left = without_one(list(range(1, self.version + 1)), number)
        seen = seen_among(self.as_history().seen, left)
        commits = without_one(self._commits, number)
        return [(name, transaction, many) for (name, transaction, _), many in zip(commits, seen)]

    def _turn_to(self, stores, commits):
        """Take other versions and commits, and bring the kept answers on to the newest store."""
        layer = between(self.newest, stores[-1])
        found = {}
        for name, (question, known, ways) in list(self._questions.items()):
            way, new = brought(question, layer, stores[-1], self.sight, known)
            found[name] = (question, new, (*ways, way))
        self._questions = found
        self._stores = stores
        self._commits = commits
