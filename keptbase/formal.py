"""Formal answers: for each possible answer a form that tells under which sights it is given (points 54 to 56)."""

from keptbase.conditions import Both, Either, Not, Unseen
from keptbase.contributions import counted_answer, nothing, shown_contents
from keptbase.forms import Form, as_form
from keptbase.sights import sign_of
from keptbase.spans import rank


def condition_form(condition, table, key, row):
    """Return the form that is 1 under the sights under which a row counts, and 0 under the others."""
    return as_form(truth_form(condition, table, key, row))


def truth_form(condition, table, key, row):
    """Return the form of a condition at a row, or the integer 1 or 0 if no unseen test is asked for it."""
    if isinstance(condition, Unseen):
        return Form.of(sign_of(table, condition.test, row))
    if isinstance(condition, Both):
        return joint_form([truth_form(part, table, key, row) for part in condition.parts])
    if isinstance(condition, Either):
        return 1 - joint_form([1 - truth_form(part, table, key, row) for part in condition.parts])
    if isinstance(condition, Not):
        return 1 - truth_form(condition.part, table, key, row)
    return 1 if condition.judge(table, key, row, {}) else 0


def joint_form(forms):
    """Return the product of all listed forms and integers."""
    # Integers are far less work than forms, and most leaves of a condition are no unseen tests.
    found = 1
    for form in forms:
        found = found * form
    return found


def mark_rank(mark):
    """Return a value by which marks of one kind are ordered."""
    if isinstance(mark, tuple):
        return [mark_rank(member) for member in mark]
    return rank(mark)


def entry_rank(entry):
    """Return a value by which the entries of a form table are ordered: that of their marks."""
    return mark_rank(entry[0])


class FormTable:
    """Forms, none of them zero, for finitely many marks of one kind."""

    def __init__(self, entries=()):
        terms = {}
        for mark, form in entries:
            terms[mark] = [*terms.get(mark, []), *form.terms]
        found = [(mark, Form(listed)) for mark, listed in terms.items()]
        self.entries = tuple(sorted([entry for entry in found if entry[1]], key=entry_rank))

    def __iter__(self):
        return iter(self.entries)

    def __eq__(self, other):
        return isinstance(other, FormTable) and self.entries == other.entries

    def __bool__(self):
        return bool(self.entries)

    def __add__(self, other):
        return FormTable([*self.entries, *other.entries])

    def __neg__(self):
        return FormTable([(mark, -form) for mark, form in self.entries])

    def __sub__(self, other):
        return self + -other

    def form_at(self, mark):
        """Return the form of a mark, the zero form if it has none."""
        for other, form in self.entries:
            if other == mark:
                return form
        return Form()


def heaped(question, key, row, form):
    """Return the entry of one row in the formal answer of a question of a heaping kind."""
    if question.kind == "rows":
        return (shown_contents(question, key, row), form)
    return ((), form * counted_answer(question, key, row))


def prevailing(question, rows):
    """Return the answers on single rows with their forms, but for None, in the order in which they prevail."""
    found = [(counted_answer(question, key, row), form) for key, row, form in rows]
    found = sorted([entry for entry in found if entry[0] is not None], key=entry_rank)
    return found[::-1] if question.kind == "greatest" else found


def covered(entries):
    """Return the entries of answers that count under the sights under which no earlier one does."""
    found = []
    still = Form.whole(1)
    for mark, form in entries:
        chosen = still * form
        still = still - chosen
        found.append((mark, chosen))
    return found


def formal(question, store):
    """Return the formal answer of a question on a store or a part."""
    table = question.schema.table_of(question.table)
    rows = [(key, row, condition_form(question.where, table, key, row))
            for key, row in store.listed_rows(question.table)]
    if question.heaping:
        return FormTable([heaped(question, key, row, form) for key, row, form in rows])
    return FormTable(covered(prevailing(question, rows)))


def read_answer(question, forms, sight):
    """Return the answer that a formal answer gives under a sight."""
    if question.kind in ("count", "sum"):
        return forms.form_at(()).under(sight)
    found = []
    for mark, form in forms:
        found.extend([mark] * form.under(sight))
    if question.kind == "rows":
        return found
    return found[0] if found else nothing(question)
