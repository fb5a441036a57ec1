"""Looks: the difference between the formal answers on new and on old images (points 57 to 60)."""

from keptbase.errors import NotContained, NotHeaping
from keptbase.formal import formal
from keptbase.spans import ranks


def look(question, layer):
    """Return the look of a question through a layer."""
    return look_between(question, layer.old, layer.new)


def look_between(question, first, second):
    """Return the look of a question from one part to another one."""
    return formal(question, second) - formal(question, first)


def changed_rows(known, seen, sight):
    """Return the list of shown contents that a look makes of a known one."""
    times = {}
    for shown in known:
        times[shown] = times.get(shown, 0) + 1
    for mark, form in seen:
        times[mark] = times.get(mark, 0) + form.under(sight)
        if times[mark] < 0:
            raise NotContained(mark)
    found = []
    for shown in sorted(list(times), key=ranks):
        found.extend([shown] * times[shown])
    return found


def changed_by(question, known, seen, sight):
    """Return a known answer changed by the value of a look under a sight."""
    if not question.heaping:
        raise NotHeaping(question.kind)
    if question.kind == "rows":
        return changed_rows(known, seen, sight)
    return known + seen.form_at(()).under(sight)
