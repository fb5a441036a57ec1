"""Entries of a history that can be left out without the others hearing it (point 79)."""

from keptbase.histories import check_entries, entries_but
from keptbase.partings import Parting, staged, writers_seen
from keptbase.running import run


def heard_of(history, entry, numbers):
    """Return a listed entry with a cell that another entry reads and it wrote last, or None."""
    for writer, area in writers_seen(history, entry):
        if writer in numbers:
            return (writer, area.one())
    return None


def leave_parting(history, numbers):
    """Return a parting of the history and that without the listed entries, or None if they can be left out."""
    left = entries_but(history.size, numbers)
    for place, entry in enumerate(left):
        found = heard_of(history, entry, numbers)
        if found is not None:
            asked, base, sight, choosers = staged(history, entry, found[0], found[1])
            came = run(history, base, sight, choosers).hearings[entry - 1]
            others = [choosers[other - 1] for other in left]
            alone = run(history.without(numbers), base, sight, others).hearings[place]
            return Parting(base, sight, choosers, entry, asked, came[asked], alone[asked])
    return None


def can_leave(history, numbers):
    """Tell whether the listed entries can be left out together."""
    return leave_set(history, numbers) == sorted(set(numbers))


def leave_set(history, numbers):
    """Return the ascending list of the fewest entries with the listed ones that can be left out together."""
    check_entries(history.size, numbers)
    found = list(numbers)
    # An entry hears of earlier ones alone, so one walk finds all that have to go along.
    for entry in range(1, history.size + 1):
        if entry not in found and heard_of(history, entry, found) is not None:
            found.append(entry)
    return sorted(set(found))
