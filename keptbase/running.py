"""Runs of histories, as they came and in other orders (point 74)."""

from keptbase.orders import check_order
from keptbase.writes import Sweep


class Run:
    """What came about in a run: its turns and stores, and what each entry heard and chose."""

    def __init__(self, turns, stores, hearings, choices):
        self.turns = turns
        self.stores = stores
        self.hearings = hearings
        self.choices = choices


def key_of(pair):
    """Return the key of a pair of a sweep."""
    return pair[0]


def settled(write, choice):
    """Return a choice with a sweep's pairs as a tuple by ascending keys."""
    if not isinstance(write, Sweep):
        return choice
    return (choice[0], tuple(sorted(list(choice[1]), key=key_of)))


def settled_choices(transaction, choices):
    """Return the tuple of the choices that a chooser has made for the writes of a transaction."""
    return tuple([settled(write, choice) for write, choice in zip(transaction.writes, choices)])


def run_turns(history, turns, base, sight, choosers, seen):
    """Return the run in which entries come in turn and each hears on a store with the number that it has seen."""
    stores = [base]
    hearings = {}
    choices = {}
    for number, known in zip(turns, seen):
        transaction = history.transactions[number - 1]
        chooser = choosers[number - 1]
        hearing = transaction.hearing(stores[known], sight)
        chosen = chooser(transaction, hearing)
        stores.append(transaction.effect(stores[-1], chosen))
        hearings[number] = hearing
        choices[number] = settled_choices(transaction, chosen)
    entries = range(1, history.size + 1)
    return Run(tuple(turns), tuple(stores), tuple([hearings[number] for number in entries]),
               tuple([choices[number] for number in entries]))


def run(history, base, sight, choosers):
    """Return the run of a history from a base."""
    return run_turns(history, list(range(1, history.size + 1)), base, sight, choosers, history.seen)


def run_in_order(history, order, base, sight, choosers):
    """Return the run of a history in an order, in which each entry hears on the store in its turn."""
    check_order(history.size, order)
    return run_turns(history, list(order), base, sight, choosers, list(range(history.size)))
