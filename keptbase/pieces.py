"""Pieces: a span is cut by other spans, and each piece has a colour (points 7 and 8)."""

from keptbase.spans import Span


def outward(span, many):
    """Return the first integers of a span of one stretch by their distance from 0."""
    found = []
    down = span.nearest(0)
    up = down + 1
    while len(found) < many and (down in span or up in span):
        # The lesser one of two integers with the same distance comes first.
        if up not in span or (down in span and abs(down) <= abs(up)):
            found.append(down)
            down -= 1
        else:
            found.append(up)
            up += 1
    return found


class Piece:
    """Contents of a domain that no cut parts, with the colour that tells which cuts have them."""

    def __init__(self, span, colour):
        self.span = span
        self.colour = colour

    def members(self, many):
        """Return the list of the first members, at most as many as told."""
        if self.span.has_none:
            return [None] if many > 0 else []
        return outward(self.span, many)


def colour_of(content, cuts):
    """Return the tuple that tells for each cut whether it has a content."""
    return tuple([content in cut for cut in cuts])


def turns(cuts):
    """Return the integers, ascending, that some cut tells from the integer just below them."""
    found = []
    for cut in cuts:
        for low, high in cut.stretches:
            if low is not None:
                found.append(low)
            if high is not None:
                found.append(high + 1)
    return sorted(set(found))


def divided(low, high, starts):
    """Return the stretches into which ascending starts divide the stretch from low to high."""
    found = []
    for start in starts:
        if (low is None or low < start) and (high is None or start <= high):
            found.append((low, start - 1))
            low = start
    found.append((low, high))
    return found


def pieces(domain, spans):
    """Return the list of the pieces of a domain under a list of cuts, ascending."""
    cuts = list(spans)
    starts = turns(cuts)
    found = []
    if domain.has_none:
        found.append(Piece(Span.of(None), colour_of(None, cuts)))
    for low, high in domain.stretches:
        for stretch in divided(low, high, starts):
            span = Span([stretch])
            found.append(Piece(span, colour_of(span.nearest(0), cuts)))
    return found


def samples(domain, spans, many):
    """Return the list of the first members of all pieces, at most as many of each as told."""
    found = []
    for piece in pieces(domain, spans):
        found.extend(piece.members(many))
    return found
