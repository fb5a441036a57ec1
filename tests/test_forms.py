import itertools
import random

from helpers import KeptCase, all_sights
from keptbase.forms import Form, differing
from keptbase.sights import Sight

SIGNS = [("a", "t", (None,)), ("a", "t", (0,)), ("a", "t", (3,)), ("b", "a", (1, 2))]
SIGHTS = all_sights(SIGNS)


def rank_by_words(sign):
    """By what signs are sorted (point 51)."""
    return (sign[0], sign[1], [(content is not None, content or 0) for content in sign[2]])


def normal_by_words(terms):
    """The normal form, told straight from points 51 and 52."""
    products = {}
    for signs, coefficient in terms:
        product = tuple(sorted(set(signs), key=rank_by_words))
        products[product] = products.get(product, 0) + coefficient
    left = [(product, coefficient) for product, coefficient in products.items() if coefficient]
    return tuple(sorted(left, key=lambda term: (len(term[0]), [rank_by_words(sign) for sign in term[0]])))


def value_by_words(terms, sight):
    return sum(coefficient for signs, coefficient in terms if all(sight.holds(sign) for sign in signs))


def random_terms(chance, signs=SIGNS):
    return [([chance.choice(signs) for _ in range(chance.randrange(4))], chance.randint(-3, 3)) for _ in range(chance.randrange(6))]


class Asked:
    """A sight that writes down what it is asked."""

    def __init__(self):
        self.signs = []

    def holds(self, sign):
        self.signs.append(sign)
        return sign[2] == (3,)


class Forms(KeptCase):
    def setUp(self):
        chance = random.Random(7)
        self.terms = [[], [([], 4)], [([SIGNS[0]], 1)], [([SIGNS[1], SIGNS[1]], -2), ([SIGNS[1]], 2)],
                      *[random_terms(chance) for _ in range(25)]]

    def test_normal_form(self):
        for terms in self.terms:
            for given in (terms, tuple((tuple(signs), coefficient) for signs, coefficient in terms), terms[::-1]):
                form = Form(given)
                self.assertEqual(form.terms, normal_by_words(terms))
                self.assertIs(type(form.terms), tuple)
                for term in form.terms:
                    self.assertEqual((type(term), type(term[0]), type(term[1])), (tuple, tuple, int))
        self.assertEqual((Form().terms, Form([]).terms), ((), ()))

    def test_order_of_signs(self):
        signs = [("a", "t", ()), ("a", "t", (None,)), ("a", "t", (None, 5)), ("a", "t", (-3,)), ("a", "t", (0,)),
                 ("a", "t", (0, None)), ("a", "t", (0, 0)), ("a", "t", (10,)), ("a", "u", (None,)), ("a1", "a", (0,)),
                 ("b", "a", (9,)), ("b", "a", (10,))]
        form = Form([([sign], 1) for sign in reversed(signs)])
        self.assertEqual([product for product, _ in form.terms], [(sign,) for sign in signs])
        self.assertEqual(form.sign_list(), signs)
        self.assertEqual(Form([(signs[::-1], 2)]).terms, ((tuple(signs), 2),))
        products = [(signs[0],), (signs[5],), (signs[0], signs[5]), (signs[1], signs[2]), (signs[1], signs[3]), tuple(signs[:3])]
        self.assertEqual([product for product, _ in Form([(product, 1) for product in products[::-1]]).terms], products)

    def test_lists_are_copied(self):
        signs = [SIGNS[0]]
        terms = [(signs, 1)]
        form = Form(terms)
        signs.append(SIGNS[1])
        terms.append(([], 5))
        form.sign_list().append("more")
        self.assertEqual((form.terms, form.sign_list()), ((((SIGNS[0],), 1),), [SIGNS[0]]))

    def test_values_and_equality(self):
        for one, other in itertools.product(self.terms[:14], self.terms):
            first, second = Form(one), Form(other)
            equal = all(value_by_words(one, sight) == value_by_words(other, sight) for sight in SIGHTS)
            self.assert_is(equal, first == second)
            self.assertEqual(first.terms == second.terms, equal)
            product = differing(first, second)
            if equal:
                self.assertIsNone(product)
                continue
            self.assertIs(type(product), tuple)
            self.assertEqual(product, (first - second).terms[0][0])
            sight = Sight((), product)
            difference = value_by_words(one, sight) - value_by_words(other, sight)
            self.assertEqual(difference, (first - second).coefficient(product))
            self.assertNotEqual(difference, 0)

    def test_nothing_else_is_equal(self):
        for value in (0, 1, None, (), "", False, Form().terms, [], object()):
            self.assertFalse(Form() == value)
            self.assertTrue(Form.whole(1) != value)

    def test_value_under_a_sight(self):
        for terms, sight in itertools.product(self.terms, SIGHTS):
            form = Form(terms)
            true = [sign for sign in SIGNS if sight.holds(sign)]
            self.assertEqual(form.under(sight), value_by_words(terms, sight))
            self.assertEqual(form.when(true), value_by_words(terms, sight))
            self.assertEqual(form.when((*true, *true, ("z", "z", ()))), value_by_words(terms, sight))

    def test_what_a_sight_is_asked(self):
        for terms in self.terms:
            form, asked = Form(terms), Asked()
            value = form.under(asked)
            self.assertEqual(sorted(set(asked.signs), key=rank_by_words), form.sign_list())
            self.assertEqual(value, form.when([SIGNS[2]]))

    def test_sums_differences_products_negatives(self):
        for one, other in itertools.product(self.terms[::2], self.terms[::3]):
            first, second = Form(one), Form(other)
            found = [first + second, first - second, first * second, -first]
            before = (first.terms, second.terms)
            for form in found:
                self.assertIs(type(form), Form)
                self.assertEqual(form.terms, normal_by_words(form.terms))
            for sight in SIGHTS:
                x, y = value_by_words(one, sight), value_by_words(other, sight)
                self.assertEqual([form.under(sight) for form in found], [x + y, x - y, x * y, -x])
            self.assertEqual((first.terms, second.terms), before)

    def test_integers_on_either_side(self):
        for terms, number in itertools.product(self.terms[::3], (-2, 0, 1, 5, 10 ** 12)):
            form = Form(terms)
            found = [form + number, number + form, form - number, number - form, form * number, number * form]
            whole = Form.whole(number)
            self.assertEqual(found, [form + whole, form + whole, form - whole, whole - form, form * whole, form * whole])
            for sight in SIGHTS[::3]:
                x = value_by_words(terms, sight)
                values = [x + number, number + x, x - number, number - x, x * number, number * x]
                self.assertEqual([part.under(sight) for part in found], values)

    def test_of_and_whole(self):
        for sign in [*SIGNS, ("any", "x", ()), ("T", "", (None, 5, 10 ** 12))]:
            self.assertEqual(Form.of(sign).terms, (((sign,), 1),))
        for number in (-7, 1, 10 ** 12):
            self.assertEqual(Form.whole(number).terms, (((), number),))
        self.assertEqual(Form.whole(0).terms, ())

    def test_squares(self):
        for terms in self.terms:
            form = Form(terms)
            zero_or_one = all(value_by_words(terms, sight) in (0, 1) for sight in SIGHTS)
            self.assert_is(zero_or_one, form * form == form)

    def test_truth(self):
        for terms in self.terms:
            self.assert_is(any(value_by_words(terms, sight) for sight in SIGHTS), bool(Form(terms)))

    def test_coefficient(self):
        for terms in self.terms:
            form, known = Form(terms), dict(normal_by_words(terms))
            for many in range(len(SIGNS) + 1):
                for product in itertools.combinations(SIGNS, many):
                    self.assertEqual(form.coefficient(list(product)), known.get(product, 0))
                    self.assertEqual(form.coefficient([*product[::-1], *product]), known.get(product, 0))

    def test_told(self):
        for terms, sign, truth in itertools.product(self.terms, [*SIGNS, ("z", "z", ())], (True, False)):
            told = Form(terms).told(sign, truth)
            self.assertNotIn(sign, told.sign_list())
            self.assertEqual(told.terms, normal_by_words(told.terms))
            for sight in SIGHTS:
                self.assertEqual(told.under(sight), value_by_words(terms, sight.turned(sign, truth)))

    def test_eight_signs(self):
        signs = [("a", "t", (at,)) for at in range(8)]
        form = Form.whole(1)
        for sign in signs:
            form = form * (1 - Form.of(sign))
        self.assertEqual(len(form.terms), 256)
        self.assertTrue(all(coefficient == (-1) ** len(product) for product, coefficient in form.terms))
        self.assertEqual([form.when(signs[at:]) for at in range(9)], [0] * 8 + [1])
        self.assertTrue(form * form == form)

    def test_worked_example(self):
        x = Form.of(("shelf", "odd", (3,)))
        y = Form.of(("shelf", "odd", (None,)))
        f = 2 * x * y - x * 5 + x * x
        found = [f.terms, f.when([]), f.when([("shelf", "odd", (3,))]), f.told(("shelf", "odd", (3,)), True).terms]
        terms = (((("shelf", "odd", (3,)),), -4), ((("shelf", "odd", (None,)), ("shelf", "odd", (3,))), 2))
        self.assertEqual(found, [terms, 0, -4, (((), -4), ((("shelf", "odd", (None,)),), 2))])
