"""Forms: sums of products of signs with integer coefficients (points 51 to 53)."""

from keptbase.spans import ranks


def sign_rank(sign):
    """Return a list by which signs are ordered."""
    table, test, contents = sign
    return [table, test, ranks(contents)]


def ascending(signs):
    """Return the list of different signs among the listed ones, ascending."""
    return sorted(list({sign: True for sign in signs}), key=sign_rank)


def term_rank(term):
    """Return a list by which the terms of a form are ordered: that of their products."""
    return [len(term[0]), [sign_rank(sign) for sign in term[0]]]


class Form:
    """A sum of products of signs with integer coefficients, in normal form."""

    def __init__(self, terms=()):
        sums = {}
        for signs, coefficient in terms:
            product = tuple(ascending(signs))
            sums[product] = sums.get(product, 0) + coefficient
        found = [(product, total) for product, total in sums.items() if total != 0]
        self.terms = tuple(sorted(found, key=term_rank))

    @classmethod
    def of(cls, sign):
        """Return the form that is 1 where a sign is True and 0 elsewhere."""
        return cls([([sign], 1)])

    @classmethod
    def whole(cls, number):
        """Return the form that always has one value."""
        return cls([([], number)])

    def __eq__(self, other):
        return isinstance(other, Form) and self.terms == other.terms

    def __bool__(self):
        return bool(self.terms)

    def __add__(self, other):
        return Form([*self.terms, *as_form(other).terms])

    def __radd__(self, other):
        return self + other

    def __neg__(self):
        return Form([(product, -coefficient) for product, coefficient in self.terms])

    def __sub__(self, other):
        return self + -as_form(other)

    def __rsub__(self, other):
        return -self + other

    def __mul__(self, other):
        terms = []
        for product, coefficient in self.terms:
            for more, factor in as_form(other).terms:
                terms.append(((*product, *more), coefficient * factor))
        return Form(terms)

    def __rmul__(self, other):
        return self * other

    def coefficient(self, signs):
        """Return the coefficient of the product of the listed signs."""
        wanted = tuple(ascending(signs))
        for product, coefficient in self.terms:
            if product == wanted:
                return coefficient
        return 0

    def sign_list(self):
        """Return the ascending list of the signs of the form."""
        found = []
        for product, _ in self.terms:
            found.extend(product)
        return ascending(found)

    def when(self, signs):
        """Return the value under a sight that is True at the listed signs alone."""
        true = {sign: True for sign in signs}
        return sum([coefficient for product, coefficient in self.terms
                    if all([sign in true for sign in product])])

    def under(self, sight):
        """Return the value under a sight."""
        return self.when([sign for sign in self.sign_list() if sight.holds(sign)])

    def told(self, sign, truth):
        """Return the form with 1 or 0 in the place of a sign."""
        terms = []
        for product, coefficient in self.terms:
            rest = [other for other in product if other != sign]
            if truth or len(rest) == len(product):
                terms.append((rest, coefficient))
        return Form(terms)


def as_form(value):
    """Return a form itself, and for an integer the form that always has this value."""
    return value if isinstance(value, Form) else Form([((), value)])


def differing(first, second):
    """Return the first product of the difference of two forms, or None if they are equal."""
    terms = (first - second).terms
    return terms[0][0] if terms else None
