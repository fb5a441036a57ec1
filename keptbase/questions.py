"""Questions about the rows of one table (points 33 to 35 and 40)."""

from keptbase.conditions import Always, Both, check_leaves
from keptbase.errors import InvalidKind, InvalidShown, NoSuchColumn
from keptbase.schema import is_one_of

KEY_NAME = "key"
SHOWS_NONE = ("count", "some")
SHOWS_ONE = ("sum", "least", "greatest")


def is_shown_number(kind, many):
    """Tell whether a kind shows this number of names."""
    if kind in SHOWS_NONE:
        return many == 0
    if kind in SHOWS_ONE:
        return many == 1
    return many >= 1


def check_shown(kind, table, shown):
    """Raise an error if a kind does not show this number of names, or one of these names."""
    if not is_shown_number(kind, len(shown)):
        raise InvalidShown(shown)
    allowed = table.columns if kind in SHOWS_ONE else (KEY_NAME, *table.columns)
    for name in shown:
        if not is_one_of(name, allowed):
            raise NoSuchColumn(name)


class Question:
    """A question of one of seven kinds about the rows of one table."""

    HEAPING = ("count", "sum", "rows")
    COVERING = ("some", "least", "greatest", "first")

    def __init__(self, schema, kind, table, shown=(), *, where=None):
        if not is_one_of(kind, (*Question.HEAPING, *Question.COVERING)):
            raise InvalidKind(kind)
        asked = schema.table_of(table)
        names = tuple(shown)
        check_shown(kind, asked, names)
        condition = Always() if where is None else where
        check_leaves(condition, asked)
        self.schema = schema
        self.kind = kind
        self.table = table
        self.shown = names
        self.where = condition

    @property
    def heaping(self):
        """Whether the kind is heaping."""
        return self.kind in Question.HEAPING

    def narrowed(self, condition):
        """Return the question about those rows alone for which a condition is true, too."""
        narrower = Both(self.where, condition)
        return Question(self.schema, self.kind, self.table, self.shown, where=narrower)
