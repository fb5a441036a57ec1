"""Signs of unseen tests at rows, and sights, which give them truths (point 31)."""

from keptbase.rows import picked


def sign_of(table, test, row):
    """Return the sign of an unseen test at a row of its table."""
    return (table.name, test, picked(table, row, table.view_of(test)))


class Sight:
    """A truth for each sign: that of the defaults, but at the exceptions the opposite."""

    def __init__(self, defaults=(), exceptions=()):
        self._defaults = {(table, test): True for table, test in defaults}
        self._exceptions = {sign: True for sign in exceptions}

    def holds(self, sign):
        """Return the truth of a sign."""
        return self._by_default(sign) != (sign in self._exceptions)

    def turned(self, sign, truth):
        """Return the sight that gives one sign a truth, and all others what this sight gives."""
        return self.with_told({sign: truth})

    def with_told(self, told):
        """Return the sight that gives told signs their truths, and all others what this sight gives."""
        kept = [sign for sign in self._exceptions if sign not in told]
        more = [sign for sign, truth in told.items() if truth != self._by_default(sign)]
        return Sight(list(self._defaults), [*kept, *more])

    def agrees(self, told):
        """Tell whether the sight gives each told sign its truth."""
        return all([self.holds(sign) == truth for sign, truth in told.items()])

    def _by_default(self, sign):
        """Return the default truth of a sign."""
        return (sign[0], sign[1]) in self._defaults
