"""Spans: sets of contents that consist of finitely many stretches (part 1)."""

from keptbase.errors import Endless, InvalidContent, InvalidSpanText, InvalidStretch
from keptbase.spantext import NONE_TEXT, read_stretch, span_parts, text_parts


def is_content(value):
    """Tell whether a value of any kind is a content."""
    if value is None:
        return True
    return isinstance(value, int) and not isinstance(value, bool)


def rank(content):
    """Return a tuple by which contents are ordered, None before every integer."""
    return (0, 0) if content is None else (1, content)


def ranks(contents):
    """Return a list by which tuples of contents are ordered, content by content."""
    return [rank(content) for content in contents]


def is_stretch(value):
    """Tell whether a value of any kind is a stretch."""
    if not isinstance(value, tuple) or len(value) != 2:
        return False
    low, high = value
    if not is_content(low) or not is_content(high):
        return False
    return low is None or high is None or low <= high


def low_rank(stretch):
    """Return the rank of the lower end, by which stretches are sorted: no end comes first."""
    return rank(stretch[0])


def reaches(high, low):
    """Tell whether no integer is missing between an upper end and the next lower end."""
    return high is None or low is None or low <= high + 1


def farther(first, second):
    """Return the farther one of two upper ends."""
    if first is None or second is None:
        return None
    return max(first, second)


def united(stretches):
    """Return the ascending stretches with gaps between them that have the same integers."""
    found = []
    for low, high in sorted(stretches, key=low_rank):
        if found and reaches(found[-1][1], low):
            found[-1] = (found[-1][0], farther(found[-1][1], high))
        else:
            found.append((low, high))
    return found


def gaps(stretches):
    """Return the stretches that are missing in stretches in normal form."""
    if not stretches:
        return [(None, None)]
    lowest, highest = stretches[0][0], stretches[-1][1]
    found = []
    if lowest is not None:
        found.append((None, lowest - 1))
    for at in range(1, len(stretches)):
        found.append((stretches[at - 1][1] + 1, stretches[at][0] - 1))
    if highest is not None:
        found.append((highest + 1, None))
    return found


def shared(first, second):
    """Return the stretches of the integers that two lists of stretches in normal form share."""
    # What is missing in one of them is missing in the meet.
    return gaps(united([*gaps(first), *gaps(second)]))


def counted(stretches):
    """Return the number of integers in stretches in normal form, None if they are endless."""
    if stretches and (stretches[0][0] is None or stretches[-1][1] is None):
        return None
    return sum([high - low + 1 for low, high in stretches])


def is_between(number, low, high):
    """Tell whether an integer is in the stretch from low to high."""
    return (low is None or low <= number) and (high is None or number <= high)


def clamped(number, low, high):
    """Return the integer of the stretch from low to high that is nearest to a number."""
    if low is not None and number < low:
        return low
    if high is not None and number > high:
        return high
    return number


class Span:
    """A set of contents: the integers of stretches, with or without None."""

    def __init__(self, pairs=(), *, has_none=False):
        stretches = list(pairs)
        for at, pair in enumerate(stretches):
            if not is_stretch(pair):
                raise InvalidStretch(at)
        self.stretches = tuple(united(stretches))
        self.has_none = has_none is True
        self.size = counted(self.stretches)

    @staticmethod
    def everything():
        """Return the span of all contents."""
        return Span([(None, None)], has_none=True)

    @staticmethod
    def numbers():
        """Return the span of all integers."""
        return Span([(None, None)])

    @staticmethod
    def of(*contents):
        """Return the span of the contents that are passed."""
        for value in contents:
            if not is_content(value):
                raise InvalidContent(value)
        integers = [value for value in contents if value is not None]
        has_none = len(integers) < len(contents)
        return Span([(number, number) for number in integers], has_none=has_none)

    @staticmethod
    def read(text):
        """Return the span that a string writes."""
        stretches = []
        has_none = False
        for at, part in enumerate(text_parts(text)):
            stretch = read_stretch(part)
            if part == NONE_TEXT:
                has_none = True
            elif stretch is None:
                raise InvalidSpanText(at)
            else:
                stretches.append(stretch)
        return Span(stretches, has_none=has_none)

    def __str__(self):
        return ", ".join(span_parts(self.stretches, self.has_none))

    def __eq__(self, other):
        return (isinstance(other, Span) and self.stretches == other.stretches
                and self.has_none == other.has_none)

    def __bool__(self):
        return bool(self.stretches) or bool(self.has_none)

    def __contains__(self, value):
        if value is None:
            return self.has_none
        if not is_content(value):
            return False
        return any([is_between(value, low, high) for low, high in self.stretches])

    def __and__(self, other):
        both = shared(self.stretches, other.stretches)
        return Span(both, has_none=self.has_none and other.has_none)

    def __or__(self, other):
        return Span([*self.stretches, *other.stretches], has_none=self.has_none or other.has_none)

    def __sub__(self, other):
        return self & ~other

    def __invert__(self):
        return Span(gaps(self.stretches), has_none=not self.has_none)

    def within(self, other):
        """Tell whether each content of the span is in the other one."""
        return not self - other

    def listed(self):
        """Return the list of the contents, None first and then the integers, ascending."""
        if self.size is None:
            raise Endless()
        found = []
        if self.has_none:
            found.append(None)
        for low, high in self.stretches:
            found.extend(list(range(low, high + 1)))
        return found

    def nearest(self, number):
        """Return the integer nearest to a number, of two the lesser one; None if there is none."""
        if not self.stretches:
            return None
        candidates = [clamped(number, low, high) for low, high in self.stretches]
        return min([(abs(found - number), found) for found in candidates])[1]

    def shifted(self, by):
        """Return the span with an integer added to each of its integers."""
        moved = []
        for low, high in self.stretches:
            moved.append((None if low is None else low + by, None if high is None else high + by))
        return Span(moved, has_none=self.has_none)


def apart(first, second):
    """Return a list of the content in which two spans differ; it is empty if they are equal."""
    odd = (first - second) | (second - first)
    if odd.has_none:
        return [None]
    return [odd.nearest(0)] if odd.stretches else []
