"""Cases: keys, rows and sights of which a condition is true for all or for none (point 41)."""

from keptbase.conditions import Both, CellIn, Either, KeyIn, Not, Unseen
from keptbase.sights import sign_of
from keptbase.spans import Span


class Case:
    """Spans of keys and contents, with truths of unseen tests, that decide a condition."""

    def __init__(self, span, spans, truths, passed):
        self.span = span
        self.spans = spans
        self.truths = dict(truths)
        self.passed = passed

    def sample_row(self):
        """Return the row of the integers nearest to 0, with None where a span has no integer."""
        return tuple([span.nearest(0) for span in self.spans])


# Below, a box is a tuple of a span of keys, a tuple of a span for each column, and a dict of truths.


def with_keys(box, span):
    """Return the list of a box with other keys; it is empty if there are none."""
    return [(span, box[1], box[2])] if span else []


def with_contents(box, at, span):
    """Return the list of a box with other contents in one column; it is empty if there are none."""
    return [(box[0], (*box[1][:at], span, *box[1][at + 1:]), box[2])] if span else []


def leaf_sides(leaf, table, box):
    """Return what sides does, for a condition without parts."""
    span, spans, truths = box
    if isinstance(leaf, KeyIn):
        return (with_keys(box, span & leaf.span), with_keys(box, span - leaf.span))
    if isinstance(leaf, CellIn):
        at = table.position_of(leaf.column)
        inside, outside = spans[at] & leaf.span, spans[at] - leaf.span
        return (with_contents(box, at, inside), with_contents(box, at, outside))
    if isinstance(leaf, Unseen) and not truths[leaf.test]:
        return ([], [box])
    return ([box], [])


def joined_sides(parts, table, box):
    """Return what sides does, for the condition that all parts are true."""
    passed = [box]
    failed = []
    for part in parts:
        pairs = [sides(part, table, found) for found in passed]
        passed = []
        for inside, outside in pairs:
            passed.extend(inside)
            failed.extend(outside)
    return (passed, failed)


def sides(condition, table, box):
    """Return the lists of the boxes in a box for which a condition is true, and is false."""
    if isinstance(condition, Both):
        return joined_sides(condition.parts, table, box)
    if isinstance(condition, Either):
        failed, passed = joined_sides([Not(part) for part in condition.parts], table, box)
        return (passed, failed)
    if isinstance(condition, Not):
        failed, passed = sides(condition.part, table, box)
        return (passed, failed)
    return leaf_sides(condition, table, box)


def told_contents(table, test, told, truth):
    """Return the condition that is true for the rows at which a test is told to have a truth."""
    view = table.view_of(test)
    # Contents that differ in the last column alone share a span, so that there are fewer boxes.
    ends = {}
    for (name, other, contents), known in told.items():
        if (name, other, len(contents)) == (table.name, test, len(view)) and known == truth:
            ends[contents[:-1]] = [*ends.get(contents[:-1], []), contents[-1]]
    parts = []
    for head, last in ends.items():
        spans = [*[Span.of(content) for content in head], Span.of(*last)]
        leaves = [CellIn(column, span) for column, span in zip(view, spans)]
        parts.append(Both(*leaves))
    return Either(*parts)


def with_truths(table, test, told, boxes):
    """Return the boxes, parted by the truths of a test that told signs allow at their rows."""
    found = []
    for truth in (True, False):
        barred = told_contents(table, test, told, not truth)
        for box in boxes:
            _, allowed = sides(barred, table, box)
            found.extend([(span, spans, {**truths, test: truth}) for span, spans, truths in allowed])
    return found


def tests_of(condition):
    """Return the list of the names of the unseen tests among the leaves, each once."""
    return list({leaf.test: True for leaf in condition.leaves() if isinstance(leaf, Unseen)})


def cases(table, condition, told=None):
    """Return the list of the cases of a condition about a table under told signs."""
    domains = tuple([table.domain_of(column) for column in table.columns])
    boxes = [(table.key_span, domains, {})]
    for test in tests_of(condition):
        boxes = with_truths(table, test, {} if told is None else told, boxes)
    found = []
    for box in boxes:
        passed, failed = sides(condition, table, box)
        found.extend([Case(span, spans, truths, True) for span, spans, truths in passed])
        found.extend([Case(span, spans, truths, False) for span, spans, truths in failed])
    return found


def signs_in(case, table, row):
    """Return the dict of the truths that a case gives to the signs at a row."""
    return {sign_of(table, test, row): truth for test, truth in case.truths.items()}
