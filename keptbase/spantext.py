"""The written forms of contents, stretches and spans (points 9 and 10)."""

from keptbase.errors import InvalidWord

MOST_DIGITS = 60

DIGITS = "0123456789"
NONE_TEXT = "none"
EMPTY_TEXT = "nothing"
BETWEEN_ENDS = ".."
BETWEEN_PARTS = ", "


def is_number_text(word):
    """Tell whether a string is read as an integer."""
    digits = word.removeprefix("-")
    if not 1 <= len(digits) <= MOST_DIGITS:
        return False
    # The method isdigit would let the digits of other scripts in.
    if not all([sign in DIGITS for sign in digits]):
        return False
    return word == "0" or digits[0] != "0"


def content_text(content):
    """Return the written form of a content."""
    return NONE_TEXT if content is None else str(content)


def read_content(word):
    """Return the content that a string writes."""
    if word == NONE_TEXT:
        return None
    if not is_number_text(word):
        raise InvalidWord(word)
    return int(word)


def end_text(end):
    """Return the written form of an end of a stretch, which is left out if it is missing."""
    return "" if end is None else content_text(end)


def stretch_text(low, high):
    """Return the written form of a stretch."""
    if low is not None and low == high:
        return content_text(low)
    return f"{end_text(low)}{BETWEEN_ENDS}{end_text(high)}"


def span_parts(stretches, has_none):
    """Return the parts of the written form of a span in normal form."""
    parts = []
    if has_none:
        parts.append(NONE_TEXT)
    for low, high in stretches:
        parts.append(stretch_text(low, high))
    return parts if parts else [EMPTY_TEXT]


def text_parts(text):
    """Return the parts of a text that is to be read as a span."""
    return [] if text == EMPTY_TEXT else text.split(BETWEEN_PARTS)


def is_end_text(word):
    """Tell whether a string is read as an end of a stretch."""
    return word == "" or is_number_text(word)


def read_end(word):
    """Return the end of a stretch that a string writes."""
    return None if word == "" else int(word)


def read_stretch(part):
    """Return the stretch that a part of a text writes, or None if it writes none."""
    if is_number_text(part):
        return (int(part), int(part))
    first, dots, last = part.partition(BETWEEN_ENDS)
    if dots == "" or not is_end_text(first) or not is_end_text(last):
        return None
    low, high = read_end(first), read_end(last)
    if low is not None and high is not None and low > high:
        return None
    return (low, high)
