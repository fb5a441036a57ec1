"""Answers of questions, and how they are put together and taken apart (points 34 to 38)."""

from keptbase.contributions import contribution, nothing
from keptbase.errors import NotContained, NotHeaping
from keptbase.spans import ranks


def answer(question, store, sight):
    """Return the answer of a question on a store or a part under a sight."""
    found = nothing(question)
    for key, row in store.listed_rows(question.table):
        found = combine(question, found, contribution(question, key, row, sight))
    return found


def combine(question, first, second):
    """Return the answer on the rows of two stores from the answers on each of them."""
    if question.kind in ("count", "sum"):
        return first + second
    if question.kind == "rows":
        return sorted([*first, *second], key=ranks)
    if question.kind == "some":
        return first or second
    if first is None or second is None:
        return second if first is None else first
    return leading(question.kind, first, second)


def leading(kind, first, second):
    """Return the one of two answers but None that is the answer on the rows of both."""
    if kind == "least":
        return min(first, second)
    if kind == "greatest":
        return max(first, second)
    return min([first, second], key=first_rank)


def first_rank(found):
    """Return a list by which answers of the kind "first" are ordered."""
    return [found[0], ranks(found[1])]


def less(question, whole, part):
    """Return the answer that combined with a part gives the whole."""
    if not question.heaping:
        raise NotHeaping(question.kind)
    if question.kind != "rows":
        return whole - part
    left = sorted(list(whole), key=ranks)
    for shown in part:
        if shown not in left:
            raise NotContained(shown)
        left.remove(shown)
    return left
