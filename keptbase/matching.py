"""Matching orders: in each turn the layer sits and the asks have their answers (points 84 to 87)."""

from keptbase.answers import answer
from keptbase.carrying import carried
from keptbase.formal import formal
from keptbase.grips import unseated
from keptbase.layers import between
from keptbase.lookparting import parting_sight
from keptbase.looks import look
from keptbase.orders import check_order
from keptbase.questions import KEY_NAME, Question
from keptbase.versions import stores_in_turn


class Misfit:
    """An entry that does not fit its turn: a cell in which its layer does not sit, or an ask with its answers."""

    def __init__(self, entry, cell=None, asked=None, sight=None, heard=None, other=None):
        self.entry = entry
        self.cell = cell
        self.asked = asked
        self.sight = sight
        self.heard = heard
        self.other = other


def heaping_like(question):
    """Return a question of a heaping kind from whose answer that of a question follows."""
    if question.kind == "some":
        return Question(question.schema, "count", question.table, where=question.where)
    shown = (KEY_NAME, *question.shown) if question.kind == "first" else question.shown
    return Question(question.schema, "rows", question.table, shown, where=question.where)


def is_hidden(question, change):
    """Tell whether rows that change can be seen not to matter to a question, whatever the other rows are."""
    # This asks far less than formal answers on all rows, and is all there is to ask for a heaping kind.
    return not look(question if question.heaping else heaping_like(question), change)


def ask_misfit(log, entry, known, told):
    """Return the misfit of the first ask of an entry that two states of the log do not answer alike, or None."""
    change = between(known, told)
    for asked, question in enumerate(log.asks[entry - 1]):
        if is_hidden(question, change):
            continue
        found = parting_sight(formal(question, known), formal(question, told))
        if found is not None:
            sight = found[1]
            answers = [answer(question, store, sight) for store in (known, told)]
            return Misfit(entry, None, asked, sight, answers[0], answers[1])
    return None


def turn_misfit(log, entry, known, ahead, told):
    """Return the misfit of an entry that sits on one state and hears on another what it knows, or None."""
    cell = unseated(log.layers[entry - 1], ahead)
    if cell is not None:
        return Misfit(entry, cell)
    return ask_misfit(log, entry, known, told)


def misfit(log, order):
    """Return the misfit of an order, or None if it is matching."""
    check_order(log.size, order)
    known = stores_in_turn(log, list(range(1, log.size + 1)))
    store = known[0]
    for entry in order:
        found = turn_misfit(log, entry, known[log.seen[entry - 1]], store, store)
        if found is not None:
            return found
        store = carried(log.layers[entry - 1], store)
    return None


def is_matching(log, order):
    """Tell whether an order is matching."""
    return misfit(log, order) is None


def wider(placed, entry):
    """Return the ascending tuple of the entries that are placed and one more."""
    return tuple(sorted([*placed, entry]))


class Turns:
    """The turns that the entries of a log can take, each looked at once, and only when it is asked for."""

    def __init__(self, log):
        self.log = log
        self._known = stores_in_turn(log, list(range(1, log.size + 1)))
        # The state depends on which entries are placed alone, not on their order.
        self._stores = {(): self._known[0]}
        self._fitting = {}
        self._leading = {}

    def fits(self, placed, entry):
        """Tell whether an entry fits the turn behind an ascending tuple of entries that can be placed."""
        if (placed, entry) not in self._fitting:
            store = self._stores[placed]
            known = self._known[self.log.seen[entry - 1]]
            fitting = turn_misfit(self.log, entry, known, store, store) is None
            self._fitting[placed, entry] = fitting
            if fitting:
                self._stores[wider(placed, entry)] = carried(self.log.layers[entry - 1], store)
        return self._fitting[placed, entry]

    def leads_on(self, placed):
        """Tell whether all other entries can come in turn behind the entries that are placed."""
        if placed not in self._leading:
            self._leading[placed] = len(placed) == self.log.size or self._has_next(placed)
        return self._leading[placed]

    def goes_on(self, placed, entry):
        """Tell whether an entry fits the turn behind those that are placed, and all others behind it."""
        return self.fits(placed, entry) and self.leads_on(wider(placed, entry))

    def _has_next(self, placed):
        """Tell whether some entry goes on behind those that are placed."""
        for entry in range(1, self.log.size + 1):
            if entry not in placed and self.goes_on(placed, entry):
                return True
        return False


def orders_along(turns, placed):
    """Give the matching orders that begin with the entries that are placed."""
    log = turns.log
    if len(placed) == log.size:
        yield placed
    else:
        waiting = [entry for entry in range(1, log.size + 1) if entry not in placed]
        for entry in waiting:
            if turns.goes_on(tuple(sorted(placed)), entry):
                longer = [*placed, entry]
                yield from orders_along(turns, longer)


def matching_orders(log):
    """Give all matching orders, in the order of lists."""
    turns = Turns(log)
    yield from orders_along(turns, [])


def first_matching(log):
    """Return the least matching order, or None if there is none."""
    for order in matching_orders(log):
        return order
    return None
